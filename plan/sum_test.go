package plan_test

import (
	"fmt"
	"testing"

	"netplan/api"
)

// plainly: an operator that scales by 1 and holds nothing back.
func plainly(kind int) op {
	return op{kind: kind, stride: 1, scales: []scale{unit}, lo: api.Lo, hi: api.Hi}
}

func TestP8Conv(t *testing.T) {
	a := in(2, 2, 2).of(1)
	w := consts(1, 2, 4).of(0, 1, 2, -1, 0, 3, -4, 0, 5)
	n := lone("Conv", plainly(api.Conv), a, w, biases(2).of(0, 10, -20), inner(2, 1, 2).of(-3))
	x := []int{2, 3, 4, 5, 6, 7, 8, 9}
	// 10 + 1 + 4 + 9 - 16, -20 - 1 + 20; 10 + 5 + 12 + 21 - 32, -20 - 5 + 40.
	makes(t, n, [][]int{x}, [][]int{{8 - 3, -1 - 3, 16 - 3, 15 - 3}})
	n.ops[0].lo, n.ops[0].hi = -2, 12
	makes(t, n, [][]int{x}, [][]int{{5, -2, 12, 12}})
}

func TestP8Depth(t *testing.T) {
	a := in(2, 2, 2).of(1)
	w := consts(2, 1, 2).of(0, 1, -2, 3, 4)
	n := lone("Depth", plainly(api.Depth), a, w, biases(2).of(0, 5, 6), inner(1, 2, 2).of(4))
	x := []int{2, 3, 4, 5, 6, 7, 8, 9}
	// 5 + 1 + 15, 6 - 4 + 24; 5 + 3 + 21, 6 - 8 + 32.
	makes(t, n, [][]int{x}, [][]int{{21 + 4, 26 + 4, 29 + 4, 30 + 4}})
	n.ops[0].lo, n.ops[0].hi = 26, 33
	makes(t, n, [][]int{x}, [][]int{{26, 30, 33, 33}})
}

func TestP8Dense(t *testing.T) {
	a := in(1, 2, 2).of(-1)
	w := consts(2, 1, 4).of(0, 1, 2, 3, 4, -1, 0, 5, 1)
	n := lone("Dense", plainly(api.Dense), a, w, biases(2).of(0, 100, -100), inner(1, 1, 2).of(10))
	x := []int{0, 1, 2, -3}
	// 100 + 1 + 4 + 9 - 8, -100 - 1 + 15 - 2.
	makes(t, n, [][]int{x}, [][]int{{106 + 10, -88 + 10}})
	n.ops[0].lo, n.ops[0].hi = -50, 110
	makes(t, n, [][]int{x}, [][]int{{110, -50}})
}

// The greatest sums: all of 255 cells, of the greatest amount, beside the greatest bias.
func TestP8GreatSums(t *testing.T) {
	ends := func(v, n int) []int {
		list := make([]int, n)
		for i := range list {
			list[i] = v
		}
		return list
	}
	w := consts(2, 1, 255).of(0, append(ends(-128, 255), ends(127, 255)...)...)
	o := plainly(api.Dense)
	o.scales[0] = scale{two30, -23}
	n := lone("Dense", o, in(1, 255, 1).of(-128), w, biases(2).of(0, -two30, two30), inner(1, 1, 2))
	// -2^30 - 255 * 255 * 128 and 2^30 + 255 * 255 * 127, by 2^24: -64.496, 64.492.
	makes(t, n, [][]int{ends(127, 255)}, [][]int{{-64, 64}})
	n.ops[0].scales[0].mult = two31 - 1
	makes(t, n, [][]int{ends(127, 255)}, [][]int{{-128, 127}})
	n.ops[0].scales[0].shift = -24
	makes(t, n, [][]int{ends(127, 255)}, [][]int{{-64, 64}})
}

// where: windows of n on a length, and where they begin.
type where struct {
	n, length, stride, same int
	at                      []int
}

func windowsTold() []where {
	return []where{
		{3, 5, 2, 0, []int{0, 2}}, {3, 5, 1, 0, []int{0, 1, 2}}, {3, 6, 2, 0, []int{0, 2}}, {5, 5, 1, 0, []int{0}},
		{2, 7, 3, 0, []int{0, 3}}, {1, 7, 3, 0, []int{0, 3, 6}}, {1, 3, 5, 0, []int{0}},
		{3, 5, 2, 1, []int{-1, 1, 3}}, // sticks out by 2
		{3, 6, 2, 1, []int{0, 2, 4}},  // by 1: half of it, cut, is 0
		{2, 4, 1, 1, []int{0, 1, 2, 3}},
		{3, 4, 1, 1, []int{-1, 0, 1, 2}},
		{4, 4, 1, 1, []int{-1, 0, 1, 2}}, // by 3
		{5, 4, 1, 1, []int{-2, -1, 0, 1}},
		{1, 5, 1, 1, []int{0, 1, 2, 3, 4}},
		{1, 5, 3, 1, []int{0, 3}}, // nothing sticks out, by 1
		{1, 4, 3, 1, []int{0, 3}},
		{1, 6, 3, 1, []int{0, 3}}, // by 2
		{1, 3, 5, 1, []int{0}},
		{2, 5, 3, 1, []int{0, 3}},
		{3, 5, 3, 1, []int{0, 3}},
		{4, 5, 3, 1, []int{-1, 2}},
		{7, 2, 1, 1, []int{-3, -2}}, // windows that hold all
		{7, 2, 2, 1, []int{-2}},
		{6, 1, 1, 1, []int{-2}},
		{9, 3, 1, 1, []int{-4, -3, -2}},
		{9, 3, 200, 1, []int{-3}},
	}
}

// One weight of a window is 1, the others are 0: so a cell comes out just where the window has it under that weight.
func TestP8Windows(t *testing.T) {
	for _, c := range windowsTold() {
		for i := 0; i < c.n; i++ {
			x := make([]int, c.length)
			for k := range x {
				x[k] = 9 + 10*(k+1)
			}
			want := make([]int, len(c.at))
			for k, at := range c.at {
				want[k] = 2
				if at+i >= 0 && at+i < c.length {
					want[k] += x[at+i] - 9
				}
			}
			weight := make([]int, c.n)
			weight[i] = 1
			for _, kind := range []int{api.Conv, api.Depth} {
				o := plainly(kind)
				o.stride, o.same = c.stride, c.same
				name := fmt.Sprint("windows ", c, ", weight ", i, ", kind ", kind)
				n := lone(name+", rows", o, in(c.length, 1, 1).of(9), consts(c.n, 1, 1).of(0, weight...), biases(1).of(0, 2), inner(len(c.at), 1, 1))
				makes(t, n, [][]int{x}, [][]int{want})
				n = lone(name+", places", o, in(1, c.length, 1).of(9), consts(1, c.n, 1).of(0, weight...), biases(1).of(0, 2), inner(1, len(c.at), 1))
				makes(t, n, [][]int{x}, [][]int{want})
			}
		}
	}
}

// A window that lies partly outside, in rows and places at once.
func TestP8SameBothWays(t *testing.T) {
	o := plainly(api.Conv)
	o.stride, o.same = 2, 1
	w := consts(3, 2, 1).of(0, 1, 2, 3, 4, 5, 6)
	n := lone("Conv", o, in(3, 4, 1).of(-1), w, biases(1), inner(2, 2, 1).of(-50))
	// Rows from -1 and 1 on, places from 0 and 2 on; cells less their zero are 1 to 12.
	x := []int{0, 1, 2, 3, 4, 5, 6, 7, 8, 9, 10, 11}
	makes(t, n, [][]int{x}, [][]int{{
		3*1 + 4*2 + 5*5 + 6*6 - 50, 3*3 + 4*4 + 5*7 + 6*8 - 50,
		1*5 + 2*6 + 3*9 + 4*10 - 50, 1*7 + 2*8 + 3*11 + 4*12 - 50,
	}})
}

// Which weight weighs which channel: one at a time is 1.
func TestP8Channels(t *testing.T) {
	const channels, outs = 3, 2
	x := []int{4, 5, 6, 7, 8, 9}
	for i := 0; i < 2*channels*outs; i++ {
		weight := make([]int, 2*channels*outs)
		weight[i] = 1
		n := lone(fmt.Sprint("Conv, weight ", i), plainly(api.Conv), in(1, 2, channels).of(2), consts(1, 2, channels*outs).of(0, weight...), biases(outs).of(0, 30, 40), inner(1, 1, outs))
		want := []int{30, 40}
		place, channel := i/(channels*outs), i%(channels*outs)
		want[channel/channels] += x[place*channels+channel%channels] - 2
		makes(t, n, [][]int{x}, [][]int{want})
	}
	for i := 0; i < 2*channels; i++ {
		weight := make([]int, 2*channels)
		weight[i] = 1
		n := lone(fmt.Sprint("Depth, weight ", i), plainly(api.Depth), in(1, 2, channels).of(2), consts(1, 2, channels).of(0, weight...), biases(channels).of(0, 30, 40, 50), inner(1, 1, channels))
		want := []int{30, 40, 50}
		want[i%channels] += x[i] - 2
		makes(t, n, [][]int{x}, [][]int{want})
	}
}
