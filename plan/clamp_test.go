package plan_test

import (
	"fmt"
	"math/rand"
	"reflect"
	"testing"

	"netplan/api"
)

// behind: one more tensor, which a Clamp makes of the last one (or of one that is told).
func (n *net) behind(from, lo, hi int) int {
	z := n.tensors[from]
	z.kind, z.data = api.Inner, nil
	n.tensors = append(n.tensors, z)
	to := len(n.tensors) - 1
	n.ops = append(n.ops, op{kind: api.Clamp, from: []int{from}, to: to, lo: lo, hi: hi})
	return to
}

// kinds: of the steps, in order.
func (w told) kinds() []int {
	list := []int{}
	for _, s := range w.steps {
		list = append(list, s.Kind)
	}
	return list
}

// works: the plan must be as planned, its steps of these kinds, and what Run answers as the document says.
func works(t *testing.T, what string, n net, kinds ...int) told {
	t.Helper()
	n.name = what + ", " + n.name
	w := planned(t, n)
	if !reflect.DeepEqual(w.kinds(), append([]int{}, kinds...)) {
		t.Errorf("%s: steps of the kinds %v, want %v", n.name, w.kinds(), kinds)
	}
	r := rand.New(rand.NewSource(1))
	for k := 0; k < 5; k++ {
		in := n.inputs(r)
		makes(t, n, in, expected(n, in))
	}
	return w
}

// livelySamples: the samples with weights and biases that are not all 0, wide ranges, and scales that leave something.
func livelySamples() []net {
	list := samples()
	for i := range list {
		d := &maker{r: rand.New(rand.NewSource(int64(i)))}
		for k, x := range list[i].tensors {
			if x.kind == api.Const || x.kind == api.Biases {
				list[i].tensors[k].data = d.cells(x.h * x.w * x.c)
			}
		}
		o := &list[i].ops[0]
		o.lo, o.hi = -100, 90
		if o.scales != nil {
			o.scales = []scale{{1<<30 + 77, -7}}
		}
		if o.kind == api.Add {
			o.scales = []scale{unit, unit, {two30, -19}}
		}
	}
	return list
}

func TestP11ClampBehindEachKind(t *testing.T) {
	for kind := api.Conv; kind <= api.Concat; kind++ {
		n := livelySamples()[kind-1]
		x := n.outs[0]
		y := n.behind(x, -30, 40)
		own := []int{kind}
		if kind > api.Clamp {
			own = []int{kind, api.Clamp}
		}
		n.outs = []int{y}
		works(t, "a Clamp", n, own...)
		n.outs = []int{y, y}
		works(t, "a Clamp, twice an output", n, own...)
		n.outs = []int{x, y}
		works(t, "what is clamped is an output ahead", n, kind, api.Clamp)
		n.outs = []int{y, x}
		works(t, "what is clamped is an output behind", n, kind, api.Clamp)
		n.outs = []int{x}
		works(t, "nobody wants the Clamp", n, kind)
	}
}

func TestP11SeveralClamps(t *testing.T) {
	for kind := api.Conv; kind <= api.Clamp; kind++ {
		for many := 2; many <= 6; many++ {
			n := livelySamples()[kind-1]
			first := n.outs[0]
			x := first
			for i := 0; i < many; i++ {
				x = n.behind(x, -60+9*i, 70-4*i)
			}
			n.outs = []int{x}
			works(t, fmt.Sprint(many, " Clamps"), n, kind)
			n.outs = []int{x, first + 1}
			works(t, fmt.Sprint(many, " Clamps, the first an output"), n, kind, api.Clamp)
			n.outs = []int{x - 1, x}
			works(t, fmt.Sprint(many, " Clamps, the last but one an output"), n, kind, api.Clamp)
			n.outs = []int{x, first}
			works(t, fmt.Sprint(many, " Clamps, and what they read"), n, kind, api.Clamp)
		}
	}
	n := livelySamples()[api.Pad-1]
	x := n.behind(n.outs[0], -50, 50)
	n.outs = []int{n.behind(x, -60, 40)}
	works(t, "two Clamps behind a Pad", n, api.Pad, api.Clamp)
}

// A step and its Clamp are as the one operator that has what is left of both ranges.
func TestP11JoinedIsAsOne(t *testing.T) {
	for kind := api.Conv; kind <= api.Clamp; kind++ {
		for _, c := range [][4]int{{-3, 3, 0, 9}, {0, 9, -3, 3}, {-128, 127, -5, 5}, {-5, 5, -128, 127}, {-9, -4, 2, 7}, {2, 7, -9, -4}, {1, 1, 1, 1}} {
			n := livelySamples()[kind-1]
			n.name = fmt.Sprint(n.name, ", ranges ", c)
			n.ops[0].lo, n.ops[0].hi = c[0], c[1]
			n.outs = []int{n.behind(n.outs[0], c[2], c[3])}
			one := livelySamples()[kind-1]
			one.ops[0].lo, one.ops[0].hi = max(c[2], min(c[3], c[0])), max(c[2], min(c[3], c[1]))
			if a, b := tells(compiled(t, n)), tells(compiled(t, one)); !reflect.DeepEqual(a, b) {
				t.Errorf("%s: the plan tells %+v, want %+v", n.name, a, b)
			}
			in := n.inputs(rand.New(rand.NewSource(7)))
			makes(t, n, in, expected(one, in))
		}
	}
}

// Another reader beside the Clamp keeps it apart, if anybody wants what that one makes.
func TestP11ClampBesideAnother(t *testing.T) {
	for kind := api.Conv; kind <= api.Clamp; kind++ {
		n := livelySamples()[kind-1]
		x := n.outs[0]
		y := n.behind(x, -30, 40)
		z := n.behind(x, -20, 50)
		n.outs = []int{y, z}
		works(t, "two Clamps of one", n, kind, api.Clamp, api.Clamp)
		n.outs = []int{y}
		works(t, "two Clamps of one, the first wanted", n, kind)
		n.outs = []int{z}
		works(t, "two Clamps of one, the last wanted", n, kind)
		n.ops[len(n.ops)-1].kind = api.Reshape
		works(t, "a Clamp and a Reshape of one, the last wanted", n, kind, api.Reshape)
		n.outs = []int{y}
		works(t, "a Clamp and a Reshape of one, the first wanted", n, kind)
		n.outs = []int{z, y}
		works(t, "a Clamp and a Reshape of one", n, kind, api.Clamp, api.Reshape)
		v := n.behind(z, 0, 1)
		n.behind(v, 0, 0)
		n.outs = []int{y}
		works(t, "a Clamp, and others that nobody wants", n, kind)
		n.outs = []int{y, v}
		works(t, "a Clamp, and another behind a Reshape", n, kind, api.Clamp, api.Reshape, api.Clamp)
	}
}

// What a Clamp and its maker leave is read by others, once or twice.
func TestP11ReadersOfAClamp(t *testing.T) {
	for kind := api.Conv; kind <= api.Clamp; kind++ {
		n := livelySamples()[kind-1]
		y := n.behind(n.outs[0], -30, 40)
		z := n.tensors[y]
		n.tensors = append(n.tensors, z, z)
		n.ops = append(n.ops, op{kind: api.Add, from: []int{y, y}, to: y + 1, scales: []scale{unit, unit, {two30, -19}}, lo: -70, hi: 60})
		n.ops = append(n.ops, op{kind: api.Add, from: []int{y + 1, y}, to: y + 2, scales: []scale{unit, unit, {two30, -19}}, lo: -128, hi: 127})
		v := n.behind(y+2, -80, 80)
		n.outs = []int{v}
		works(t, "Adds behind a Clamp", n, kind, api.Add, api.Add)
	}
}

// An Input and a constant are no steps: a Clamp of an Input is one by itself, a Clamp of a constant is none.
func TestP11ClampOfNoStep(t *testing.T) {
	n := net{tensors: []tensor{in(1, 2, 2), consts(1, 2, 2).of(0, 9, -9, 1, 0)}}
	n.outs = []int{n.behind(0, -5, 5)}
	works(t, "of an Input", n, api.Clamp)
	n.outs = []int{n.behind(1, -5, 5)}
	works(t, "of a constant", n)
	n.outs = []int{2, 3}
	works(t, "of both", n, api.Clamp)
}

// Steps between a step and its Clamp: the range goes back to where the step stands.
func TestP11ClampFarBehind(t *testing.T) {
	n := net{tensors: []tensor{in(2, 2, 2)}}
	x := n.behind(0, -100, 100)
	y := n.behind(0, -50, 50)
	z := n.behind(x, -60, 110)
	v := n.behind(y, -70, 20)
	u := n.behind(z, 0, 127)
	n.outs = []int{v, u}
	w := works(t, "two rows of Clamps", n, api.Clamp, api.Clamp)
	if w.outs[0] != w.steps[1].To || w.outs[1] != w.steps[0].To {
		t.Errorf("the outputs are mingled: %+v", w)
	}
}

// All pairs of ranges, over all cells: what is left of both is the one step's.
func TestP11WhatIsLeftOfBothRanges(t *testing.T) {
	ends := []int{-128, -127, -40, -1, 0, 1, 3, 50, 126, 127}
	cells := make([]int, 256)
	for i := range cells {
		cells[i] = i - 128
	}
	for _, lo := range ends {
		for _, hi := range ends {
			for _, low := range ends {
				for _, high := range ends {
					if lo > hi || low > high {
						continue
					}
					n := net{name: fmt.Sprint("from ", lo, " to ", hi, ", then from ", low, " to ", high), tensors: []tensor{in(2, 128, 1)}}
					x := n.behind(0, lo, hi)
					n.outs = []int{n.behind(x, low, high)}
					want := make([]int, len(cells))
					for i, v := range cells {
						want[i] = max(low, min(high, max(lo, min(hi, v))))
					}
					makes(t, n, [][]int{cells}, [][]int{want})
					if s := compiled(t, n).Steps(); len(s) != 1 || s[0].Kind != api.Clamp {
						t.Errorf("%s: %v", n.name, s)
					}
				}
			}
		}
	}
}
