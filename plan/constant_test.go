package plan_test

import (
	"fmt"
	"math/rand"
	"reflect"
	"testing"

	"netplan/api"
)

// fixed: the net with constants in the place of Inputs.
func (n net) fixed(in [][]int) net {
	n.tensors = append([]tensor{}, n.tensors...)
	for i, x := range n.tensors {
		if x.kind == api.Input {
			x.kind, x.data = api.Const, in[0]
			n.tensors[i] = x
			in = in[1:]
		}
	}
	return n
}

// Of constants the same comes out as of Inputs, and nothing is left to do.
func TestP11ConstantsAlone(t *testing.T) {
	for kind := api.Conv; kind <= api.Concat; kind++ {
		n := livelySamples()[kind-1]
		x := n.outs[0]
		y := n.behind(x, -30, 40)
		n.outs = []int{y, x, 0, y}
		in := n.inputs(rand.New(rand.NewSource(int64(kind))))
		out, e := compiled(t, n).Run(in)
		if e != api.OK {
			t.Fatalf("%s: %d", n.name, e)
		}
		n = n.fixed(in)
		makes(t, n, nil, out)
		says(t, n.name, compiled(t, n), told{outs: []int{-1, -1, -1, -1}})
	}
}

func TestP11ConstantsOfDrawnModels(t *testing.T) {
	looked := 0
	for seed := int64(0); seed < 400; seed++ {
		n := draw(seed)
		n.name = fmt.Sprint("draw ", seed)
		in := n.inputs(rand.New(rand.NewSource(seed)))
		want, _ := compiled(t, n).Run(in)
		n = n.fixed(in)
		if len(n.bytes()) > api.MaxBytes {
			continue
		}
		looked++
		makes(t, n, nil, want)
		w := tells(compiled(t, n))
		if len(w.steps) > 0 || len(w.buffers) > 0 || w.arena != 0 {
			t.Fatalf("%s: %+v", n.name, w)
		}
	}
	if looked < 390 {
		t.Errorf("only %d models are short enough", looked)
	}
}

// A constant beside an Input is no buffer; what constants alone make is none either.
func TestP11ConstantBesideAnInput(t *testing.T) {
	for _, kind := range []int{api.Add, api.Concat} {
		for turn := 0; turn < 2; turn++ {
			n := livelySamples()[kind-1]
			n.tensors[turn] = tensor{kind: api.Const, h: 2, w: 3, c: n.tensors[turn].c, data: []int{5, -6, 7, -8, 9}}
			w := works(t, fmt.Sprint("constant ", turn), n, kind)
			want := []int{w.ins[0], w.ins[0]}
			want[turn] = -1
			if !reflect.DeepEqual(w.steps[0].From, want) {
				t.Errorf("%s: step %v, want from %v", n.name, w.steps[0], want)
			}
			x := n.tensors[turn]
			x.kind = api.Inner
			n.tensors = append(n.tensors, x)
			made := len(n.tensors) - 1
			n.ops = []op{{kind: api.Clamp, from: []int{turn}, to: made, lo: -5, hi: 5}, n.ops[0]}
			n.ops[1].from = []int{1 - turn, 1 - turn}
			n.ops[1].from[turn] = made
			w = works(t, fmt.Sprint("a Clamp of constant ", turn), n, kind)
			if !reflect.DeepEqual(w.steps[0].From, want) {
				t.Errorf("%s, clamped: step %v, want from %v", n.name, w.steps[0], want)
			}
		}
	}
}

// A row of operators, each over what constants made ahead of it; the Input meets it at the end.
func TestP11ConstantsInARow(t *testing.T) {
	n := net{tensors: []tensor{in(1, 2, 2), consts(1, 2, 2).of(0, 90, -90, 3, 4)}}
	x := 1
	for i := 0; i < 14; i++ {
		x = n.behind(x, -80+i, 80-i)
	}
	y := n.behind(0, -100, 100)
	n.ops[14] = op{kind: api.Add, from: []int{0, x}, to: y, scales: []scale{unit, unit, {two30, -19}}, lo: -120, hi: 120}
	n.outs = []int{y, x}
	w := works(t, "a row", n, api.Add)
	if !reflect.DeepEqual(w.steps[0].From, []int{w.ins[0], -1}) || w.outs[1] != -1 || w.arena != 8 {
		t.Errorf("a row: %+v", w)
	}
}

// Nothing is kept from run to run: constants stay as they are.
func TestP2ConstantsStay(t *testing.T) {
	n := net{tensors: []tensor{in(1, 1, 2), consts(1, 1, 2).of(0, 7, -7)}}
	x := n.behind(1, -5, 5)
	n.outs = []int{x, 1, 0}
	p := compiled(t, n)
	for i := 0; i < 3; i++ {
		out, e := p.Run([][]int{{i, -i}})
		if e != api.OK || !reflect.DeepEqual(out, [][]int{{5, -5}, {7, -7}, {i, -i}}) {
			t.Fatalf("run %d: %v, %d", i, out, e)
		}
		for _, list := range out {
			list[0], list[1] = 99, 98
		}
	}
}
