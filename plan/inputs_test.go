package plan_test

import (
	"testing"

	"netplan/api"
	"netplan/plan"
)

func lengths(t *testing.T, n net, want []int) {
	t.Helper()
	p, e := plan.Compile(n.bytes())
	if e != api.OK {
		t.Fatalf("Compile: %d", e)
	}
	if p.Inputs() != len(want) {
		t.Errorf("Inputs() = %d, want %d", p.Inputs(), len(want))
	}
	for i, k := range want {
		if p.Length(i) != k {
			t.Errorf("Length(%d) = %d, want %d", i, p.Length(i), k)
		}
	}
	for _, i := range []int{-1 << 63, -1000, -2, -1, len(want), len(want) + 1, 24, 255, 256, 1 << 32, 1<<63 - 1} {
		if p.Length(i) != 0 {
			t.Errorf("Length(%d) = %d, want 0", i, p.Length(i))
		}
	}
}

func TestP10Inputs(t *testing.T) {
	lengths(t, net{tensors: []tensor{in(1, 1, 2)}, outs: []int{0}}, []int{2})
	lengths(t, net{tensors: []tensor{consts(1, 1, 2)}, outs: []int{0}}, []int{})
	lengths(t, net{tensors: []tensor{in(32, 16, 1), in(1, 1, 1), in(2, 3, 5)}, outs: []int{1}}, []int{512, 1, 30})
	n := net{tensors: []tensor{biases(3), inner(1, 3, 1), in(1, 3, 1), consts(2, 2, 2), in(4, 1, 1), inner(4, 1, 1), in(1, 1, 5)}}
	n.ops = []op{clamp(4, 5), clamp(2, 1)}
	n.outs = []int{5, 1, 3}
	lengths(t, n, []int{3, 4, 5})
	n = net{outs: []int{0}}
	want := []int{}
	for i := 1; i <= 24; i++ {
		n.tensors = append(n.tensors, in(1, i, 2))
		want = append(want, 2*i)
	}
	lengths(t, n, want)
}

func TestP10SeveralPlans(t *testing.T) {
	p, _ := plan.Compile(net{tensors: []tensor{in(1, 1, 2)}, outs: []int{0}}.bytes())
	q, _ := plan.Compile(net{tensors: []tensor{in(1, 1, 3), in(1, 1, 4)}, outs: []int{0}}.bytes())
	if p.Inputs() != 1 || p.Length(0) != 2 || q.Inputs() != 2 || q.Length(0) != 3 || q.Length(1) != 4 {
		t.Errorf("plans of two models mingle")
	}
}

func TestP1NoPlan(t *testing.T) {
	p, e := plan.Compile("")
	if e != api.ErrFormat {
		t.Errorf("Compile: %d", e)
	}
	for _, p := range []*plan.Plan{p, {}} {
		w := tells(p)
		if p.Inputs() != 0 || p.Length(0) != 0 || p.Length(-1) != 0 || w.arena != 0 {
			t.Errorf("no plan has inputs, or an arena")
		}
		if len(w.buffers) != 0 || len(w.steps) != 0 || len(w.ins) != 0 || len(w.outs) != 0 {
			t.Errorf("no plan tells %+v", w)
		}
	}
}
