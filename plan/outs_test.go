package plan_test

import (
	"math/rand"
	"reflect"
	"testing"

	"netplan/api"
)

// Outputs that are Inputs, constants, made of constants, made by steps, and all of these more than once.
func TestP10Outs(t *testing.T) {
	n := net{name: "outputs", tensors: []tensor{inner(1, 1, 2), in(1, 1, 3), consts(1, 1, 2).of(0, 7, -7), in(1, 1, 2), inner(1, 1, 3), inner(1, 1, 2)}}
	n.ops = []op{clamp(2, 0), clamp(1, 4), clamp(3, 5)}
	n.outs = []int{5, 0, 1, 2, 3, 4, 5, 5, 0, 1, 2, 3, 4}
	w := works(t, "all", n, api.Clamp, api.Clamp)
	a, b := w.ins[0], w.ins[1]
	x, y := w.steps[0].To, w.steps[1].To
	if want := []int{y, -1, a, -1, b, x, y, y, -1, a, -1, b, x}; !reflect.DeepEqual(w.outs, want) {
		t.Errorf("Outs() = %v, want %v", w.outs, want)
	}
	if len(w.buffers) != 4 || w.arena != 10 {
		t.Errorf("%+v", w)
	}
	n.outs = []int{2, 2, 0}
	w = works(t, "constants alone", n)
	if !reflect.DeepEqual(w.outs, []int{-1, -1, -1}) || len(w.buffers) != 2 || w.arena != 5 {
		t.Errorf("constants alone: %+v", w)
	}
	n.outs = []int{3, 1}
	w = works(t, "Inputs alone", n)
	if !reflect.DeepEqual(w.outs, []int{w.ins[1], w.ins[0]}) || len(w.buffers) != 2 {
		t.Errorf("Inputs alone: %+v", w)
	}
}

// As many outputs as a byte can tell.
func TestP10ManyOuts(t *testing.T) {
	n := net{name: "many outputs", tensors: []tensor{in(1, 1, 1), consts(1, 1, 1), inner(1, 1, 1)}, ops: []op{clamp(0, 2)}}
	for i := 0; i < 255; i++ {
		n.outs = append(n.outs, i%3)
	}
	if w := planned(t, n); len(w.outs) != 255 {
		t.Errorf("%d outputs", len(w.outs))
	}
}

// What nobody wants: rows of operators, each of them read by the next, and operators that read what is wanted.
func TestP11Unwanted(t *testing.T) {
	for kind := api.Conv; kind <= api.Concat; kind++ {
		n := livelySamples()[kind-1]
		x := n.outs[0]
		alone := n
		y := x
		for i := 0; i < 5; i++ {
			y = n.behind(y, -9, 9)
		}
		n.behind(0, -9, 9)
		works(t, "unwanted", n, kind)
		in := n.inputs(rand.New(rand.NewSource(int64(kind))))
		want, _ := compiled(t, alone).Run(in)
		makes(t, n, in, want)
		if a, b := tells(compiled(t, alone)), tells(compiled(t, n)); !reflect.DeepEqual(a, b) {
			t.Errorf("%s: what nobody wants shows: %+v, %+v", n.name, a, b)
		}
		n.outs = []int{0}
		works(t, "all unwanted", n)
	}
}

// No step at all, and as many as there may be.
func TestP11HowManySteps(t *testing.T) {
	n := net{name: "none", tensors: []tensor{in(1, 1, 1)}, outs: []int{0}}
	works(t, "none", n)
	c := chain(api.MaxOps, 3, []int{api.MaxPool, api.Reshape})
	works(t, "all", c, kindsOf(c)...)
}
