package plan_test

import (
	"reflect"
	"testing"

	"netplan/api"
	"netplan/plan"
)

const (
	long = 1 << iota
	format
	limit
	graph
	shape
	quant
	all
)

// faulty: a model with these faults. What comes last in the order of errors stands first in the bytes.
func faulty(faults int) string {
	n := net{tensors: []tensor{biases(1), in(1, 1, 2), inner(1, 1, 2), inner(1, 1, 2)}, outs: []int{2}}
	n.ops = []op{clamp(1, 2), clamp(2, 3)}
	if faults&quant != 0 {
		n.tensors[0].zero = 1
		n.ops[0].lo = 9
	}
	if faults&shape != 0 {
		n.tensors[3].c = 3
	}
	if faults&graph != 0 {
		n.outs = append(n.outs, 0)
	}
	if faults&limit != 0 {
		n.tensors = append(n.tensors, in(1, 0, 1))
	}
	if faults&long != 0 {
		for i := 0; i < 8; i++ {
			n.tensors = append(n.tensors, consts(16, 32, 1))
		}
	}
	s := n.bytes()
	if faults&format != 0 {
		s += "\x00"
	}
	return s
}

// first: the error that is named first of those that apply.
func first(faults int) api.Errno {
	for e := api.ErrLong; e <= api.ErrQuant; e++ {
		if faults&(1<<(e-1)) != 0 {
			return e
		}
	}
	return api.OK
}

func TestP1FirstError(t *testing.T) {
	for faults := 0; faults < all; faults++ {
		refused(t, "several faults", faulty(faults), first(faults))
	}
}

// pairs: one operator has what is to be found later, the other what is to be found first, in both orders.
func TestP1FirstErrorOverTheWholeModel(t *testing.T) {
	for turn := 0; turn < 2; turn++ {
		n := net{tensors: []tensor{in(1, 1, 2), in(1, 1, 2), inner(1, 1, 2), inner(1, 1, 2)}, outs: []int{0}}
		n.ops = []op{clamp(0, 2), clamp(1, 3)}
		n.ops[turn].lo = 9
		refused(t, "a range", n.bytes(), api.ErrQuant)
		n.tensors[3-turn].w = 2
		refused(t, "a range and a shape", n.bytes(), api.ErrShape)
		n.ops[turn].from[0] = 9
		refused(t, "a range, a shape and a number", n.bytes(), api.ErrGraph)
		n.tensors[turn].c = 0
		refused(t, "and no cell", n.bytes(), api.ErrLimit)
		n.tensors[1-turn].kind = 4
		refused(t, "and a kind", n.bytes(), api.ErrFormat)
	}
}

func TestP1LimitsWaitForTheForm(t *testing.T) {
	n := net{outs: []int{0}}
	for i := 0; i < 255; i++ {
		n.tensors = append(n.tensors, in(0, 1, 1))
		n.ops = append(n.ops, clamp(255, 255))
	}
	s := n.bytes()
	refused(t, "255 tensors without cells", s, api.ErrLimit)
	refused(t, "the same, cut", s[:len(s)-1], api.ErrFormat)
	refused(t, "the same, and more", s+"\x00", api.ErrFormat)
	n.ops[254].kind = 11
	refused(t, "the same, and a kind", n.bytes(), api.ErrFormat)
	n = net{tensors: []tensor{in(1, 1, 1)}}
	s = n.bytes()
	refused(t, "no output", s, api.ErrLimit)
	refused(t, "no output, and more", s+"\x00", api.ErrFormat)
}

// Every byte of every sample becomes every other: no call panics, a plan comes just without an error, twice the same.
func TestP1P2EveryByte(t *testing.T) {
	for _, n := range samples() {
		s := []byte(n.bytes())
		for i := range s {
			was := s[i]
			for v := 0; v < 256; v++ {
				s[i] = byte(v)
				twice(t, string(s))
			}
			s[i] = was
		}
	}
}

func twice(t *testing.T, s string) {
	p, e := plan.Compile(s)
	q, f := plan.Compile(s)
	if e != f || (p != nil) != (e == api.OK) || (q != nil) != (e == api.OK) || e < api.OK || e > api.ErrQuant {
		t.Fatalf("%q: %v, %d, then %v, %d", s, p != nil, e, q != nil, f)
	}
	if p.Inputs() != q.Inputs() || p.Length(0) != q.Length(0) || p.Length(1) != q.Length(1) || !reflect.DeepEqual(tells(p), tells(q)) {
		t.Fatalf("%q: two plans differ", s)
	}
	if e == api.OK {
		w := sound(t, s, p, api.MaxOps)
		runTwice(t, s, p, q)
		if !reflect.DeepEqual(tells(p), w) {
			t.Fatalf("%q: a run changes the plan", s)
		}
	}
}

// runTwice: two plans of one model make the same of the same inputs.
func runTwice(t *testing.T, s string, p, q *plan.Plan) {
	var in [][]int
	for i := 0; i < p.Inputs(); i++ {
		list := make([]int, p.Length(i))
		for k := range list {
			list[k] = k*37%256 - 128
		}
		in = append(in, list)
	}
	out, e := p.Run(in)
	again, f := q.Run(in)
	if e != api.OK || f != api.OK || len(out) == 0 || !reflect.DeepEqual(out, again) {
		t.Fatalf("%q: Run = %v, %d, then %v, %d", s, out, e, again, f)
	}
	for _, list := range out {
		for _, v := range list {
			if v < api.Lo || v > api.Hi {
				t.Fatalf("%q: a cell of %d", s, v)
			}
		}
	}
	roomless(t, s, out)
}

func FuzzCompile(f *testing.F) {
	for _, n := range samples() {
		f.Add(n.bytes())
	}
	f.Fuzz(twice)
}
