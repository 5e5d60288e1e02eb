package plan_test

import (
	"testing"

	"netplan/api"
)

func TestP4Tensors(t *testing.T) {
	n := net{outs: []int{0}}
	for i := 1; i <= 255; i++ {
		n.tensors = append(n.tensors, in(1, 1, 1))
		want := api.OK
		if i > 24 {
			want = api.ErrLimit
		}
		refused(t, "many tensors", n.bytes(), want)
	}
	n.outs = nil
	n.tensors = nil
	refused(t, "no tensor, no operator, no output", n.bytes(), api.ErrLimit)
}

func TestP4Ops(t *testing.T) {
	n := net{tensors: []tensor{in(1, 1, 1)}, outs: []int{0}}
	for i := 1; i <= 20; i++ {
		n.tensors = append(n.tensors, inner(1, 1, 1))
		n.ops = append(n.ops, clamp(i-1, i))
		want := api.OK
		if i > 16 {
			want = api.ErrLimit
		}
		refused(t, "many operators", n.bytes(), want)
	}
}

// withTensor: a model that is one but for this tensor, which is made where it must be.
func withTensor(x tensor) net {
	n := net{tensors: []tensor{in(1, 1, 1), x}, outs: []int{0}}
	if x.kind == api.Inner {
		n.tensors[0] = in(x.h, x.w, x.c)
		n.ops = []op{clamp(0, 1)}
	}
	return n
}

func TestP4Cells(t *testing.T) {
	shapes := []struct {
		h, w, c int
		want    api.Errno
	}{
		{1, 1, 1, api.OK}, {0, 1, 1, api.ErrLimit}, {1, 0, 1, api.ErrLimit}, {1, 1, 0, api.ErrLimit}, {0, 0, 0, api.ErrLimit},
		{32, 16, 1, api.OK}, {1, 4, 128, api.OK}, {8, 8, 8, api.OK}, {255, 2, 1, api.OK}, {1, 2, 255, api.OK},
		{27, 19, 1, api.ErrLimit}, {1, 19, 27, api.ErrLimit}, {3, 3, 57, api.ErrLimit},
	}
	for kind := api.Input; kind <= api.Inner; kind++ {
		for _, c := range shapes {
			n := withTensor(tensor{kind: kind, h: c.h, w: c.w, c: c.c})
			refused(t, "a tensor's cells", n.bytes(), c.want)
		}
	}
	for _, kind := range []int{api.Input, api.Inner} {
		n := withTensor(tensor{kind: kind, h: 255, w: 255, c: 255})
		refused(t, "the greatest tensor", n.bytes(), api.ErrLimit)
		n = withTensor(tensor{kind: kind, h: 255, w: 255, c: 0})
		refused(t, "the widest tensor of nothing", n.bytes(), api.ErrLimit)
	}
}

func TestP4Arena(t *testing.T) {
	n := net{tensors: []tensor{in(16, 32, 1), in(16, 32, 1), in(16, 16, 1), in(16, 16, 1), inner(16, 32, 1)},
		ops: []op{clamp(0, 4)}, outs: []int{4}}
	refused(t, "2048 cells of Inputs and Inners", n.bytes(), api.OK)
	n.tensors = append(n.tensors, consts(16, 16, 1), biases(100))
	refused(t, "constants beside 2048 cells", n.bytes(), api.OK)
	n.tensors = append(n.tensors, in(1, 1, 1))
	refused(t, "2049 cells of Inputs and Inners", n.bytes(), api.ErrLimit)

	n = net{tensors: []tensor{consts(16, 32, 1)}, outs: []int{0}}
	for i := 1; i <= 5; i++ {
		n.tensors = append(n.tensors, inner(16, 32, 1))
		n.ops = append(n.ops, clamp(i-1, i))
		want := api.OK
		if i == 5 {
			want = api.ErrLimit
		}
		refused(t, "Inners alone", n.bytes(), want)
	}
}

func TestP4Outputs(t *testing.T) {
	for _, n := range samples() {
		n.outs = nil
		refused(t, n.name+" without output", n.bytes(), api.ErrLimit)
	}
	n := sample(api.Clamp)
	for len(n.outs) < 255 {
		n.outs = append(n.outs, 0)
	}
	refused(t, "255 outputs", n.bytes(), api.OK)
}
