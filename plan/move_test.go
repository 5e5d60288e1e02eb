package plan_test

import (
	"testing"

	"netplan/api"
)

func pool(kind, size, stride int) op {
	return op{kind: kind, size: size, stride: stride, lo: api.Lo, hi: api.Hi}
}

func TestP8MaxPool(t *testing.T) {
	n := lone("MaxPool", pool(api.MaxPool, 2, 1), in(2, 3, 2).of(50), inner(1, 2, 2).of(50))
	x := []int{1, -9, 2, -8, 3, -7, 6, -4, 5, -5, 4, -6}
	makes(t, n, [][]int{x}, [][]int{{6, -4, 5, -5}})
	n.ops[0].lo, n.ops[0].hi = -4, 5
	makes(t, n, [][]int{x}, [][]int{{5, -4, 5, -4}})
	n = lone("MaxPool of the least", pool(api.MaxPool, 2, 1), in(2, 2, 1), inner(1, 1, 1))
	makes(t, n, [][]int{{-128, -128, -128, -128}}, [][]int{{-128}})
	for i := 0; i < 4; i++ {
		x := []int{-128, -128, -128, -128}
		x[i] = -127
		makes(t, n, [][]int{x}, [][]int{{-127}})
	}
	n = lone("MaxPool, 2 apart, what is left over", pool(api.MaxPool, 1, 2), in(4, 3, 1), inner(2, 2, 1))
	makes(t, n, [][]int{{1, 2, 3, 4, 5, 6, 7, 8, 9, 10, 11, 12}}, [][]int{{1, 3, 7, 9}})
	n = lone("MaxPool, 2 apart, of 3", pool(api.MaxPool, 3, 2), in(3, 6, 1), inner(1, 2, 1))
	makes(t, n, [][]int{{1, 2, 3, 4, 5, 99, 0, 0, 0, 9, 8, 99, 0, 0, 0, 0, 7, 99}}, [][]int{{3, 9}})
}

func TestP8AvgPool(t *testing.T) {
	n := lone("AvgPool", pool(api.AvgPool, 2, 1), in(2, 2, 2).of(50), inner(1, 1, 2).of(50))
	for _, c := range []struct{ x, want []int }{
		{[]int{1, -1, 2, -2, 2, -2, 2, -2}, []int{2, -2}},
		{[]int{0, 0, 1, -1, 0, 0, 1, -1}, []int{1, -1}},
		{[]int{1, -1, 0, 0, 0, 0, 0, 0}, []int{0, 0}},
		{[]int{1, -1, 1, -1, 1, -1, 0, 0}, []int{1, -1}},
		{[]int{1, -1, 1, -1, 1, -1, 2, -2}, []int{1, -1}},
		{[]int{1, -1, 1, -1, 1, -1, 3, -3}, []int{2, -2}},
		{[]int{127, -128, 127, -128, 127, -128, 127, -128}, []int{127, -128}},
		{[]int{127, -128, 127, -128, 127, -128, 126, -127}, []int{127, -128}},
		{[]int{127, -128, 127, -128, 127, -128, 125, -126}, []int{127, -128}},
		{[]int{127, -128, 127, -128, 127, -128, 124, -125}, []int{126, -127}},
		{[]int{127, 127, -128, -128, 0, 1, 0, 0}, []int{0, 0}},
		{[]int{127, 127, -128, -128, 0, 0, -1, 3}, []int{-1, 1}},
	} {
		makes(t, n, [][]int{c.x}, [][]int{c.want})
	}
	n.ops[0].lo, n.ops[0].hi = -1, 1
	makes(t, n, [][]int{{1, -1, 2, -2, 2, -2, 2, -2}}, [][]int{{1, -1}})
	// An odd number of cells has no halves: 4 and 5 by 9, 13 and 14 by 9.
	n = lone("AvgPool of 3", pool(api.AvgPool, 3, 1), in(3, 3, 1), inner(1, 1, 1))
	for v, want := range map[int]int{4: 0, 5: 1, 13: 1, 14: 2, -4: 0, -5: -1, -13: -1, -14: -2} {
		makes(t, n, [][]int{{0, 0, 0, 0, v, 0, 0, 0, 0}}, [][]int{{want}})
	}
	n = lone("AvgPool, 3 apart", pool(api.AvgPool, 2, 3), in(2, 6, 1), inner(1, 2, 1))
	makes(t, n, [][]int{{1, 2, 99, 10, 20, 99, 3, 4, 99, 30, 40, 99}}, [][]int{{3, 25}})
	n = lone("AvgPool of 1", pool(api.AvgPool, 1, 1), in(1, 3, 1), inner(1, 3, 1))
	makes(t, n, [][]int{{-128, 0, 127}}, [][]int{{-128, 0, 127}})
}

func TestP8Clamp(t *testing.T) {
	n := lone("Clamp", op{kind: api.Clamp, lo: -3, hi: 3}, in(1, 2, 4).of(7), inner(1, 2, 4).of(7))
	makes(t, n, [][]int{{-128, -4, -3, -2, 2, 3, 4, 127}}, [][]int{{-3, -3, -3, -2, 2, 3, 3, 3}})
	n.ops[0].lo, n.ops[0].hi = 5, 5
	makes(t, n, [][]int{{-128, -4, -3, -2, 4, 5, 6, 127}}, [][]int{{5, 5, 5, 5, 5, 5, 5, 5}})
	n.ops[0].lo, n.ops[0].hi = api.Lo, api.Hi
	makes(t, n, [][]int{{-128, -4, -3, -2, 4, 5, 6, 127}}, [][]int{{-128, -4, -3, -2, 4, 5, 6, 127}})
}

func TestP8Pad(t *testing.T) {
	for _, c := range []struct {
		name string
		pads [4]int
		h, w int
		want []int
	}{
		{"Pad of nothing", [4]int{0, 0, 0, 0}, 2, 2, []int{1, 2, 3, 4}},
		{"Pad above", [4]int{1, 0, 0, 0}, 3, 2, []int{9, 9, 1, 2, 3, 4}},
		{"Pad below", [4]int{0, 1, 0, 0}, 3, 2, []int{1, 2, 3, 4, 9, 9}},
		{"Pad left", [4]int{0, 0, 1, 0}, 2, 3, []int{9, 1, 2, 9, 3, 4}},
		{"Pad right", [4]int{0, 0, 0, 1}, 2, 3, []int{1, 2, 9, 3, 4, 9}},
		{"Pad left, 2", [4]int{0, 0, 2, 0}, 2, 4, []int{9, 9, 1, 2, 9, 9, 3, 4}},
		{"Pad above and right", [4]int{1, 0, 0, 1}, 3, 3, []int{9, 9, 9, 1, 2, 9, 3, 4, 9}},
		{"Pad around", [4]int{1, 1, 1, 1}, 4, 4, []int{9, 9, 9, 9, 9, 1, 2, 9, 9, 3, 4, 9, 9, 9, 9, 9}},
	} {
		n := lone(c.name, op{kind: api.Pad, pads: c.pads}, in(2, 2, 1).of(9), inner(c.h, c.w, 1).of(9))
		makes(t, n, [][]int{{1, 2, 3, 4}}, [][]int{c.want})
	}
	n := lone("Pad of channels", op{kind: api.Pad, pads: [4]int{0, 1, 1, 0}}, in(1, 1, 2).of(-128), inner(2, 2, 2).of(-128))
	makes(t, n, [][]int{{1, 2}}, [][]int{{-128, -128, 1, 2, -128, -128, -128, -128}})
}

func TestP8Reshape(t *testing.T) {
	n := lone("Reshape", op{kind: api.Reshape}, in(2, 3, 2).of(9), inner(3, 1, 4).of(9))
	x := []int{1, 2, 3, 4, 5, 6, 7, 8, 9, 10, -128, 127}
	makes(t, n, [][]int{x}, [][]int{x})
}

func TestP8Concat(t *testing.T) {
	n := lone("Concat", op{kind: api.Concat}, in(1, 2, 1).of(9), in(1, 2, 2).of(9), inner(1, 2, 3).of(9))
	makes(t, n, [][]int{{1, 2}, {3, 4, 5, 6}}, [][]int{{1, 3, 4, 2, 5, 6}})
	n = lone("Concat of rows", op{kind: api.Concat}, in(2, 1, 2), in(2, 1, 1), inner(2, 1, 3))
	makes(t, n, [][]int{{1, 2, 3, 4}, {5, 6}}, [][]int{{1, 2, 5, 3, 4, 6}})
	n.ops[0].from = []int{1, 0}
	makes(t, n, [][]int{{1, 2, 3, 4}, {5, 6}}, [][]int{{5, 1, 2, 6, 3, 4}})
	n = lone("Concat of one tensor", op{kind: api.Concat}, in(1, 2, 2), inner(1, 2, 4))
	n.ops[0].from = []int{0, 0}
	makes(t, n, [][]int{{1, 2, 3, 4}}, [][]int{{1, 2, 1, 2, 3, 4, 3, 4}})
}

// Operators one behind the other, over Consts, and tensors that stand in another order than they are made.
func TestP8Several(t *testing.T) {
	n := net{name: "several", tensors: []tensor{inner(1, 1, 3), consts(1, 1, 2).of(0, 50, -50), inner(1, 1, 2), in(1, 1, 1), inner(1, 1, 2)}}
	n.ops = []op{
		{kind: api.Clamp, from: []int{1}, to: 4, lo: -20, hi: 20},
		{kind: api.Concat, from: []int{3, 4}, to: 0},
		{kind: api.Clamp, from: []int{4}, to: 2, lo: 0, hi: 7},
	}
	n.outs = []int{2, 0, 1, 3, 4}
	makes(t, n, [][]int{{99}}, [][]int{{7, 0}, {99, 20, -20}, {50, -50}, {99}, {20, -20}})
}
