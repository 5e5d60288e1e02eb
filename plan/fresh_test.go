package plan_test

import (
	"math/rand"
	"reflect"
	"testing"

	"netplan/api"
)

// spoil: writes into all that was told.
func (w told) spoil() {
	for i := range w.buffers {
		w.buffers[i] = api.Buffer{At: -9, Cells: -9}
	}
	for i := range w.steps {
		for k := range w.steps[i].From {
			w.steps[i].From[k] = -9
		}
		w.steps[i] = api.Step{Kind: -9, To: -9}
	}
	for i := range w.ins {
		w.ins[i] = -9
	}
	for i := range w.outs {
		w.outs[i] = -9
	}
}

// lists: all lists of numbers that were told.
func (w told) lists() [][]int {
	list := [][]int{w.ins, w.outs}
	for _, s := range w.steps {
		list = append(list, s.From)
	}
	return list
}

func copied(w told) told {
	c := told{arena: w.arena}
	c.buffers = append(c.buffers, w.buffers...)
	c.ins = append(c.ins, w.ins...)
	c.outs = append(c.outs, w.outs...)
	for _, s := range w.steps {
		s.From = append([]int{}, s.From...)
		c.steps = append(c.steps, s)
	}
	return c
}

// What is written into answers shows neither in other answers, ahead or behind, nor in runs.
func TestP13WritesShowNowhere(t *testing.T) {
	for seed := int64(0); seed < 500; seed++ {
		n := draw(seed)
		p := compiled(t, n)
		was := copied(tells(p))
		ahead := tells(p)
		tells(p).spoil()
		if !reflect.DeepEqual(copied(ahead), was) {
			t.Fatalf("draw %d: an answer from ahead became %+v, was %+v", seed, ahead, was)
		}
		if got := copied(tells(p)); !reflect.DeepEqual(got, was) {
			t.Fatalf("draw %d: the next answer is %+v, was %+v", seed, got, was)
		}
		in := n.inputs(rand.New(rand.NewSource(seed)))
		out, e := p.Run(in)
		if e != api.OK || !reflect.DeepEqual(out, expected(n, in)) {
			t.Fatalf("draw %d: Run = %v, %d", seed, out, e)
		}
	}
}

// No list shows what is written into another list of the same answer.
func TestP13ListsShareNothing(t *testing.T) {
	for seed := int64(0); seed < 300; seed++ {
		p := compiled(t, draw(seed))
		lists := tells(p).lists()
		was := copied(tells(p)).lists()
		for i := range lists {
			for k := range lists[i] {
				lists[i][k] = -9
			}
			for j := i + 1; j < len(lists); j++ {
				if len(was[j]) > 0 && !reflect.DeepEqual(lists[j], was[j]) {
					t.Fatalf("draw %d: list %d shows what is written into list %d", seed, j, i)
				}
			}
		}
	}
}

// A run leaves the plan as it is, also one that is refused.
func TestP2RunsLeaveThePlan(t *testing.T) {
	for seed := int64(0); seed < 200; seed++ {
		n := draw(seed)
		p := compiled(t, n)
		was := tells(p)
		p.Run(n.inputs(rand.New(rand.NewSource(seed))))
		p.Run(nil)
		if !reflect.DeepEqual(tells(p), was) {
			t.Fatalf("draw %d: a run changes the plan", seed)
		}
	}
}
