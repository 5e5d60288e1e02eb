package plan_test

import (
	"fmt"
	"testing"

	"netplan/api"
)

// grow: a tensor's H, W or C (0, 1, 2), greater by so much.
func (x *tensor) grow(side int, by int) int {
	p := []*int{&x.h, &x.w, &x.c}[side]
	*p += by
	return *p
}

func TestP6EachLength(t *testing.T) {
	for _, n := range samples() {
		for i := range n.tensors {
			for side := 0; side < 3; side++ {
				for _, by := range []int{-1, 1} {
					m := sample(n.ops[0].kind)
					if m.tensors[i].grow(side, by) == 0 {
						continue
					}
					refused(t, fmt.Sprintf("%s, tensor %d, side %d by %d", n.name, i, side, by), m.bytes(), api.ErrShape)
				}
			}
		}
	}
}

// Sides that change places leave the number of cells alone.
func TestP6OtherSidesSameCells(t *testing.T) {
	for _, n := range samples() {
		for i, x := range n.tensors {
			for _, y := range []tensor{{h: x.w, w: x.h, c: x.c}, {h: x.h, w: x.c, c: x.w}, {h: x.c, w: x.w, c: x.h}} {
				if y.h == x.h && y.w == x.w {
					continue
				}
				m := sample(n.ops[0].kind)
				m.tensors[i].h, m.tensors[i].w, m.tensors[i].c = y.h, y.w, y.c
				want := api.ErrShape
				if n.name == "Reshape" || (n.name == "Dense" && i == 0) {
					want = api.OK
				}
				refused(t, fmt.Sprintf("%s, tensor %d turned", n.name, i), m.bytes(), want)
			}
		}
	}
}

// No number of windows, made or not, goes with a stride or size of 0.
func TestP6ZeroStrideOrSize(t *testing.T) {
	for _, kind := range []int{api.Conv, api.Depth, api.MaxPool, api.AvgPool} {
		for same := 0; same < 2; same++ {
			for z := 1; z <= 9; z++ {
				m := windowed(kind, 2, 5, 0, same, z, true)
				refused(t, "a stride of 0", m.bytes(), api.ErrShape)
			}
		}
	}
	for _, kind := range []int{api.MaxPool, api.AvgPool} {
		for z := 1; z <= 9; z++ {
			for stride := 0; stride < 3; stride++ {
				m := net{tensors: []tensor{in(5, 5, 1), inner(z, z, 1)}, outs: []int{1}}
				m.ops = []op{{kind: kind, from: []int{0}, to: 1, stride: stride}}
				refused(t, "a size of 0", m.bytes(), api.ErrShape)
			}
		}
	}
}

// begun: the windows counted one by one, as the document tells them.
func begun(n, length, stride, same int) int {
	count := 0
	for at := 0; at < length; at += stride {
		if same == 1 || at+n <= length {
			count++
		}
	}
	return count
}

// windowed: a model with one operator that has windows of n on a length, and makes z of them, along the rows or the places.
func windowed(kind, n, length, stride, same, z int, rows bool) net {
	a := in(length, 1, 1)
	w := consts(n, 1, 1)
	to := inner(z, 1, 1)
	pool := kind == api.MaxPool || kind == api.AvgPool
	if pool {
		a.w = n
	}
	if !rows {
		a.h, a.w = a.w, a.h
		w.h, w.w = w.w, w.h
		to.h, to.w = to.w, to.h
	}
	o := op{kind: kind, from: []int{0}, to: 3, size: n, stride: stride, same: same}
	if !pool {
		o.from = []int{0, 1, 2}
		o.scales = []scale{fair}
	}
	return net{tensors: []tensor{a, w, biases(1), to}, ops: []op{o}, outs: []int{3}}
}

func TestP6Windows(t *testing.T) {
	for _, kind := range []int{api.Conv, api.Depth, api.MaxPool, api.AvgPool} {
		for n := 1; n <= 6; n++ {
			for length := 1; length <= 8; length++ {
				for _, stride := range []int{1, 2, 3, 4, 7, 8, 9, 255} {
					for same := 0; same < 2; same++ {
						if same == 1 && kind >= api.MaxPool {
							continue
						}
						tryCounts(t, kind, n, length, stride, same)
					}
				}
			}
		}
	}
}

func tryCounts(t *testing.T, kind, n, length, stride, same int) {
	count := begun(n, length, stride, same)
	for z := 1; z <= 9; z++ {
		want := api.ErrShape
		if z == count {
			want = api.OK
		}
		for _, rows := range []bool{true, false} {
			m := windowed(kind, n, length, stride, same, z, rows)
			what := fmt.Sprintf("kind %d: %d windows of %d on %d, %d apart, same %d", kind, z, n, length, stride, same)
			refused(t, what, m.bytes(), want)
		}
	}
}

// The document's example: windows of 3 on a length of 5.
func TestP6WindowsOfTheExample(t *testing.T) {
	for same, z := range []int{2, 3} {
		m := windowed(api.Conv, 3, 5, 2, same, z, true)
		refused(t, "windows of 3 on 5", m.bytes(), api.OK)
	}
}

func TestP6PlainAndSameDiffer(t *testing.T) {
	n := sample(api.Conv)
	n.ops[0].same = 1
	refused(t, "Conv with 'same', made as without", n.bytes(), api.ErrShape)
	n.tensors[3] = inner(5, 4, 3)
	refused(t, "Conv with 'same'", n.bytes(), api.OK)
	n.tensors[1] = consts(9, 9, 6)
	refused(t, "Conv with 'same', wider than its cells", n.bytes(), api.OK)
	n.ops[0].same = 0
	refused(t, "Conv, wider than its cells", n.bytes(), api.ErrShape)
}

func TestP6DepthHasOneWeightEach(t *testing.T) {
	for _, c := range []struct {
		ac, wc, o int
		conv, dep api.Errno
	}{
		{1, 1, 1, api.OK, api.OK}, {2, 4, 2, api.OK, api.ErrShape}, {2, 2, 2, api.ErrShape, api.OK},
		{2, 2, 1, api.OK, api.ErrShape}, {1, 2, 2, api.OK, api.ErrShape}, {3, 3, 2, api.ErrShape, api.ErrShape},
	} {
		n := net{tensors: []tensor{in(2, 2, c.ac), consts(1, 1, c.wc), biases(c.o), inner(2, 2, c.o)}, outs: []int{3}}
		n.ops = []op{{kind: api.Conv, from: []int{0, 1, 2}, to: 3, stride: 1, scales: []scale{fair}}}
		refused(t, "Conv", n.bytes(), c.conv)
		n.ops[0].kind = api.Depth
		refused(t, "Depth", n.bytes(), c.dep)
	}
}

// Sums and products above 255 are not the bytes that they end in.
func TestP6AboveAByte(t *testing.T) {
	one := []scale{fair}
	for _, n := range []net{
		{"Conv", []tensor{in(1, 1, 16), consts(1, 1, 16), biases(17), inner(1, 1, 17)},
			[]op{{kind: api.Conv, from: []int{0, 1, 2}, to: 3, stride: 1, scales: one}}, []int{0}},
		{"Dense", []tensor{in(16, 17, 1), consts(1, 1, 16), biases(1), inner(1, 1, 1)},
			[]op{{kind: api.Dense, from: []int{0, 1, 2}, to: 3, scales: one}}, []int{0}},
		{"Pad in rows", []tensor{in(1, 1, 1), inner(1, 1, 1)},
			[]op{{kind: api.Pad, from: []int{0}, to: 1, pads: [4]int{255, 1, 0, 0}}}, []int{0}},
		{"Pad in places", []tensor{in(1, 1, 1), inner(1, 1, 1)},
			[]op{{kind: api.Pad, from: []int{0}, to: 1, pads: [4]int{0, 0, 255, 1}}}, []int{0}},
		{"Concat", []tensor{in(1, 1, 200), in(1, 1, 57), inner(1, 1, 1)},
			[]op{{kind: api.Concat, from: []int{0, 1}, to: 2}}, []int{0}},
	} {
		refused(t, n.name, n.bytes(), api.ErrShape)
	}
}

func TestP6Pad(t *testing.T) {
	for i := 0; i < 4; i++ {
		n := sample(api.Pad)
		n.ops[0].pads[i]++
		refused(t, "Pad by one more", n.bytes(), api.ErrShape)
	}
	for i := 0; i < 4; i++ {
		n := net{tensors: []tensor{in(1, 1, 1), inner(201, 1, 1)}, ops: []op{{kind: api.Pad, from: []int{0}, to: 1}}, outs: []int{1}}
		if i > 1 {
			n.tensors[1] = inner(1, 201, 1)
		}
		n.ops[0].pads[i] = 200
		refused(t, "Pad by 200", n.bytes(), api.OK)
	}
	n := sample(api.Pad)
	n.ops[0].pads = [4]int{2, 1, 0, 7}
	refused(t, "Pad, the same in all", n.bytes(), api.OK)
	n.ops[0].pads = [4]int{}
	refused(t, "Pad by nothing, made larger", n.bytes(), api.ErrShape)
	n.tensors[1] = inner(2, 3, 2)
	refused(t, "Pad by nothing", n.bytes(), api.OK)
}

func TestP6AnyOperator(t *testing.T) {
	n := net{tensors: []tensor{in(1, 1, 2), inner(1, 1, 2), inner(1, 1, 2)}, ops: []op{clamp(0, 1), clamp(1, 2)}, outs: []int{0}}
	refused(t, "two Clamps", n.bytes(), api.OK)
	n.tensors[2].c = 3
	refused(t, "the second Clamp of another shape", n.bytes(), api.ErrShape)
}
