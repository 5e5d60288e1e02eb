package plan_test

import (
	"fmt"
	"testing"

	"netplan/api"
)

func TestP7Scales(t *testing.T) {
	cases := []struct {
		scale
		want api.Errno
	}{
		{scale{1 << 30, 0}, api.OK}, {scale{1<<30 - 1, 0}, api.ErrQuant}, {scale{1<<31 - 1, 0}, api.OK},
		{scale{1 << 31, 0}, api.ErrQuant}, {scale{0, 0}, api.ErrQuant}, {scale{-1, 0}, api.ErrQuant}, {scale{-1 << 30, 0}, api.ErrQuant},
		{scale{1 << 30, -31}, api.OK}, {scale{1 << 30, -32}, api.ErrQuant}, {scale{1 << 30, 30}, api.OK}, {scale{1 << 30, 31}, api.ErrQuant},
		{scale{1 << 30, 127}, api.ErrQuant}, {scale{1 << 30, -128}, api.ErrQuant},
		{scale{0x40000000, 1}, api.OK}, {scale{0x00000040, 1}, api.ErrQuant},
	}
	for kind := api.Conv; kind <= api.Add; kind++ {
		for i := range sample(kind).ops[0].scales {
			for _, c := range cases {
				n := sample(kind)
				n.ops[0].scales = append([]scale{}, n.ops[0].scales...)
				n.ops[0].scales[i] = c.scale
				refused(t, fmt.Sprintf("%s, scale %d: %v", n.name, i, c.scale), n.bytes(), c.want)
			}
		}
	}
}

func TestP7Ranges(t *testing.T) {
	for kind := api.Conv; kind <= api.Clamp; kind++ {
		for _, c := range []struct {
			lo, hi int
			want   api.Errno
		}{
			{0, 0, api.OK}, {-128, 127, api.OK}, {-128, -128, api.OK}, {127, 127, api.OK}, {-1, 0, api.OK}, {-2, -1, api.OK},
			{1, 0, api.ErrQuant}, {0, -1, api.ErrQuant}, {-1, -2, api.ErrQuant}, {127, -128, api.ErrQuant}, {127, 126, api.ErrQuant},
		} {
			n := sample(kind)
			n.ops[0].lo = c.lo
			n.ops[0].hi = c.hi
			refused(t, fmt.Sprintf("%s from %d to %d", n.name, c.lo, c.hi), n.bytes(), c.want)
		}
	}
}

func TestP7Biases(t *testing.T) {
	const most = 1 << 30
	for kind := api.Conv; kind <= api.Dense; kind++ {
		for cell := 0; cell < 3; cell++ {
			for _, v := range []int{0, 1, -1, most, -most, most + 1, -most - 1, 1<<31 - 1, -1 << 31} {
				want := api.OK
				if v > most || v < -most {
					want = api.ErrQuant
				}
				n := sample(kind)
				n.tensors[2].data = make([]int, 3)
				n.tensors[2].data[cell] = v
				refused(t, fmt.Sprintf("%s, bias %d: %d", n.name, cell, v), n.bytes(), want)

				n = sample(api.Clamp)
				n.tensors = append(n.tensors, biases(3))
				n.tensors[2].data = make([]int, 3)
				n.tensors[2].data[cell] = v
				refused(t, fmt.Sprintf("Biases that nobody reads: %d", v), n.bytes(), want)
			}
		}
	}
}

func TestP7ZeroOfBiases(t *testing.T) {
	for _, zero := range []int{1, -1, 127, -128} {
		n := sample(api.Dense)
		n.tensors[2].zero = zero
		refused(t, "a zero of Biases", n.bytes(), api.ErrQuant)
		n = sample(api.Clamp)
		n.tensors = append(n.tensors, biases(1))
		n.tensors[2].zero = zero
		refused(t, "a zero of Biases that nobody reads", n.bytes(), api.ErrQuant)
	}
}

func TestP7ZeroOfWeights(t *testing.T) {
	for kind := api.Conv; kind <= api.Dense; kind++ {
		for _, zero := range []int{1, -1, 127, -128} {
			n := sample(kind)
			n.tensors[1].zero = zero
			refused(t, n.name+" with a zero of weights", n.bytes(), api.ErrQuant)
		}
	}
	n := sample(api.Clamp)
	n.tensors = append(n.tensors, consts(1, 1, 1))
	n.tensors[2].zero = 5
	refused(t, "a zero of a Const that is no weights", n.bytes(), api.OK)
}

// Conv to Add may have any zeros, from MaxPool on they are all alike.
func TestP7ZerosOfCells(t *testing.T) {
	for _, n := range samples() {
		kind := n.ops[0].kind
		cells := []int{n.ops[0].to}
		for i, must := range slots(kind) {
			if must == api.Input {
				cells = append(cells, n.ops[0].from[i])
			}
		}
		m := sample(kind)
		for _, k := range cells {
			m.tensors[k].zero = -128
		}
		refused(t, n.name+", zeros alike", m.bytes(), api.OK)
		want := api.OK
		if kind >= api.MaxPool {
			want = api.ErrQuant
		}
		for _, k := range cells {
			m = sample(kind)
			m.tensors[k].zero = 1
			refused(t, fmt.Sprintf("%s, another zero at %d", n.name, k), m.bytes(), want)
		}
		for _, k := range cells[1:] {
			m = sample(kind)
			m.tensors[k].zero = -1
			m.tensors[cells[0]].zero = 1
			refused(t, fmt.Sprintf("%s, zeros that differ in sign", n.name), m.bytes(), want)
		}
	}
}

func TestP7AnyOperator(t *testing.T) {
	n := net{tensors: []tensor{in(1, 1, 2), inner(1, 1, 2), inner(1, 1, 2)}, ops: []op{clamp(0, 1), clamp(1, 2)}, outs: []int{0}}
	n.ops[1].lo = 4
	refused(t, "the second Clamp's range", n.bytes(), api.ErrQuant)
}
