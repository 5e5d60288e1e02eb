package plan_test

import (
	"fmt"
	"reflect"
	"testing"

	"netplan/api"
)

// What follows tells a second time which operators are steps: backwards from the outputs, and of each tensor by itself.

// maker: the operator that makes a tensor (-1: none).
func (n net) maker(t int) int {
	for i, o := range n.ops {
		if o.to == t {
			return i
		}
	}
	return -1
}

// known: is a tensor the same whatever the inputs are, because it is made of constants alone?
func (n net) known(t int) bool {
	i := n.maker(t)
	if i < 0 {
		return n.tensors[t].kind != api.Input
	}
	for _, k := range n.ops[i].from {
		if !n.known(k) {
			return false
		}
	}
	return true
}

// readers: by how many steps or outputs a tensor is wanted, if a Clamp is still a step.
func (n net) readers(t int) int {
	count := 0
	for _, o := range n.ops {
		for _, k := range o.from {
			if k == t && !n.known(o.to) && n.readers(o.to) > 0 {
				count++
			}
		}
	}
	for _, k := range n.outs {
		if k == t {
			count++
		}
	}
	return count
}

// swallowed: is an operator a Clamp that the step ahead of it takes?
func (n net) swallowed(o op) bool {
	i := n.maker(o.from[0])
	return o.kind == api.Clamp && i >= 0 && n.ops[i].kind <= api.Clamp && n.readers(o.from[0]) == 1
}

// last: what is at last made of a tensor by the Clamps that the step takes which makes it.
func (n net) last(t int) int {
	for _, o := range n.ops {
		if o.from[0] == t && n.readers(o.to) > 0 && n.swallowed(o) {
			return n.last(o.to)
		}
	}
	return t
}

// steps: with tensors for buffers.
func (n net) steps() []api.Step {
	list := []api.Step{}
	for _, o := range n.ops {
		if n.known(o.to) || n.readers(o.to) == 0 || n.swallowed(o) {
			continue
		}
		list = append(list, api.Step{Kind: o.kind, From: n.unknown(o.from), To: n.last(o.to)})
	}
	return list
}

// tensorsOf: of each buffer the tensor that it must be, if the plan has these steps.
func (w told) tensorsOf(n net, steps []api.Step) []int {
	list := make([]int, len(w.buffers))
	ins := 0
	for k, x := range n.tensors {
		if x.kind == api.Input {
			list[w.ins[ins]] = k
			ins++
		}
	}
	for i, s := range steps {
		list[w.steps[i].To] = s.To
	}
	return list
}

// named: tensors for buffers; -1 stays.
func named(tensors []int, buffers []int) []int {
	var list []int
	for _, b := range buffers {
		if b >= 0 {
			b = tensors[b]
		}
		list = append(list, b)
	}
	return list
}

// unknown: tensors, but -1 for those that are constant.
func (n net) unknown(tensors []int) []int {
	var list []int
	for _, k := range tensors {
		if n.known(k) {
			k = -1
		}
		list = append(list, k)
	}
	return list
}

// planned: the plan must be sound, and its steps be those of the net, buffer for tensor.
func planned(t *testing.T, n net) told {
	t.Helper()
	w := sound(t, n.name, compiled(t, n), len(n.ops))
	steps := n.steps()
	if len(steps) != len(w.steps) {
		t.Fatalf("%s: %d steps, want %d: %v, want %v", n.name, len(w.steps), len(steps), w.steps, steps)
	}
	tensors := w.tensorsOf(n, steps)
	for i, s := range steps {
		got := api.Step{Kind: w.steps[i].Kind, From: named(tensors, w.steps[i].From), To: s.To}
		if !reflect.DeepEqual(got, s) {
			t.Fatalf("%s: step %d is %v, want %v", n.name, i, got, s)
		}
	}
	if got, want := named(tensors, w.outs), n.unknown(n.outs); !reflect.DeepEqual(got, want) {
		t.Fatalf("%s: the outputs are %v, want %v", n.name, got, want)
	}
	for b, k := range tensors {
		x := n.tensors[k]
		if w.buffers[b].Cells != x.h*x.w*x.c {
			t.Fatalf("%s: buffer %d has %d cells, want %d", n.name, b, w.buffers[b].Cells, x.h*x.w*x.c)
		}
	}
	return w
}

func TestP10P11P12DrawnModels(t *testing.T) {
	joins, drops, folds, steps := 0, 0, 0, 0
	for seed := int64(0); seed < 2500; seed++ {
		n := draw(seed)
		n.name = fmt.Sprint("draw ", seed)
		w := planned(t, n)
		steps += len(w.steps)
		for _, o := range n.ops {
			switch {
			case n.known(o.to):
				folds++
			case n.readers(o.to) == 0:
				drops++
			case n.swallowed(o):
				joins++
			}
		}
	}
	if joins < 300 || drops < 300 || folds < 300 || steps < 3000 {
		t.Errorf("%d Clamps that are taken, %d operators that nobody wants, %d of constants, %d steps", joins, drops, folds, steps)
	}
}

func TestP10P11P12Samples(t *testing.T) {
	for _, n := range samples() {
		w := planned(t, n)
		if len(w.steps) != 1 {
			t.Errorf("%s: %v", n.name, w.steps)
		}
	}
}
