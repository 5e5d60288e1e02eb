package plan_test

import (
	"fmt"
	"testing"

	"netplan/api"
)

const (
	two30 = 1 << 30
	two31 = 1 << 31
)

// unit: the scale that leaves a number as it is, up to 2^30 in amount.
var unit = scale{two30, 1}

// biased: a net that makes OUT of a bias, whatever the input is.
func biased(bias int, c scale, zero int) net {
	o := op{kind: api.Dense, scales: []scale{c}, lo: api.Lo, hi: api.Hi}
	name := fmt.Sprintf("OUT(%d, %d, %d)", bias, c.mult, c.shift)
	return lone(name, o, in(1, 1, 1), consts(1, 1, 1), biases(1).of(0, bias), inner(1, 1, 1).of(zero))
}

func TestP8Scaled(t *testing.T) {
	for _, c := range []struct{ x, mult, shift, want int }{
		// A shift of 0: halves of either sign go to the greater.
		{10, two30, 0, 5}, {11, two30, 0, 6}, {-11, two30, 0, -5}, {-10, two30, 0, -5}, {-13, two30, 0, -6},
		{1, two30, 0, 1}, {-1, two30, 0, 0}, {0, two30, 0, 0}, {3, two30, 0, 2}, {-3, two30, 0, -1},
		{1, two30 + 1, 0, 1}, {-1, two30 + 1, 0, -1}, {100, two31 - 1, 0, 100}, {-100, two31 - 1, 0, -100},
		{10, 3 << 29, 0, 8}, {-10, 3 << 29, 0, -7}, {9, 3 << 29, 0, 7}, {-9, 3 << 29, 0, -7},
		// Below 0: both roundings, one after the other; halves go to the greater in amount.
		{10, two30, -1, 3}, {-10, two30, -1, -3}, {12, two30, -1, 3}, {14, two30, -1, 4}, {-14, two30, -1, -4}, {9, two30, -1, 3}, {-9, two30, -1, -2},
		{8, two30, -3, 1}, {-8, two30, -3, -1}, {6, two30, -3, 0}, {-6, two30, -3, 0}, {7, two30, -3, 1}, {-7, two30, -3, 0},
		{two30, two30, -31, 0}, {two30, two30, -30, 1}, {-two30, two30, -30, -1}, {-two30, two30, -31, 0}, {two30, two31 - 1, -29, 2},
		{two30, two30, -29, 1}, {-two30, two30, -29, -1}, {two30 - 2, two30, -30, 0}, {2 - two30, two30, -30, 0}, {two30 - 1, two30, -30, 1}, {1 - two30, two30, -30, 0},
		{two30, two31 - 1, -31, 1}, {-two30, two31 - 1, -31, 0}, {two30, two30, -23, 64}, {-two30, two30, -22, -128},
		// Above 0.
		{3, two30, 1, 3}, {-3, two30, 1, -3}, {1, two30, 6, 32}, {-1, two30, 8, -128}, {1, two30, 7, 64}, {1, 3 << 29, 1, 2}, {-1, 3 << 29, 1, -1}, {1, 3 << 29, 3, 6},
		{0, two31 - 1, 30, 0}, {1, two30, 30, 127}, {-1, two30, 30, -128}, {two30, two31 - 1, 30, 127}, {-two30, two31 - 1, 30, -128}, {two30, two30, 1, 127}, {-two30, two30, 2, -128},
	} {
		makes(t, biased(c.x, scale{c.mult, c.shift}, 0), [][]int{{7}}, [][]int{{c.want}})
	}
}

// The zero comes behind the scale and ahead of the range.
func TestP8OutZero(t *testing.T) {
	makes(t, biased(200, unit, -100), [][]int{{7}}, [][]int{{100}})
	makes(t, biased(-200, unit, 100), [][]int{{7}}, [][]int{{-100}})
	makes(t, biased(255, unit, -128), [][]int{{7}}, [][]int{{127}})
	makes(t, biased(256, unit, -128), [][]int{{7}}, [][]int{{127}})
	makes(t, biased(-255, unit, 127), [][]int{{7}}, [][]int{{-128}})
	makes(t, biased(0, unit, 127), [][]int{{7}}, [][]int{{127}})
	makes(t, biased(two30, unit, 127), [][]int{{7}}, [][]int{{127}})
	makes(t, biased(-two30, unit, -128), [][]int{{7}}, [][]int{{-128}})
	for _, c := range []struct{ x, lo, hi, want int }{{-4, -3, 3, 3 - 2}, {-8, -3, 3, -3}, {-7, -3, 3, -2}, {-2, -3, 3, 3}, {-1, -3, 3, 3}, {50, -3, -3, -3}, {-50, 9, 9, 9}} {
		n := biased(c.x, unit, 5)
		n.ops[0].lo, n.ops[0].hi = c.lo, c.hi
		makes(t, n, [][]int{{0}}, [][]int{{c.want}})
	}
}

// summed: an Add of two cells.
func summed(a, b tensor, z tensor, scales ...scale) net {
	return lone("Add", op{kind: api.Add, scales: scales, lo: api.Lo, hi: api.Hi}, a, b, z)
}

// The bounds of HELD, to the last bit: an Add can bring two numbers that are held to one small one.
func TestP8Held(t *testing.T) {
	a := in(1, 1, 1)
	most := scale{two31 - 1, 30}
	// HELD(x * 2^30) is 2^31 - 1 and -2^31; scaled, 2^31 - 2 and -(2^31 - 1): together -1, by 32.
	makes(t, summed(a, a, inner(1, 1, 1), most, most, scale{two30, 6}), [][]int{{1}, {-1}}, [][]int{{-32}})
	makes(t, summed(a, a, inner(1, 1, 1), most, most, scale{two30, 6}), [][]int{{-128}, {127}}, [][]int{{-32}})
	// An amount that is held shows beside one that is not: 2^30 by 2^24.
	makes(t, summed(a, a, inner(1, 1, 1), scale{two30, 10}, unit, scale{two30, -23}), [][]int{{100}, {0}}, [][]int{{64}})
	makes(t, summed(a, a, inner(1, 1, 1), unit, scale{two30, 10}, scale{two30, -23}), [][]int{{0}, {-100}}, [][]int{{-64}})
	// A sum that is held: 2^31 - 1 or -2^31, by 2^25.
	makes(t, summed(a, a, inner(1, 1, 1), most, most, scale{two30, -24}), [][]int{{1}, {1}}, [][]int{{64}})
	makes(t, summed(a, a, inner(1, 1, 1), most, most, scale{two30, -24}), [][]int{{-1}, {-1}}, [][]int{{-64}})
	// To the last bit: 2^31 * m / 2^31 is 128.5 * 2^23, (2^31 - 1) * m / 2^31 is less.
	odd := scale{257 << 22, -23}
	makes(t, summed(a, a, inner(1, 1, 1).of(-128), most, most, odd), [][]int{{1}, {1}}, [][]int{{0}})
	makes(t, summed(a, a, inner(1, 1, 1).of(127), most, most, odd), [][]int{{-1}, {-1}}, [][]int{{-2}})
	// (1 - 2^31) * m / 2^31 is more than -128.5 * 2^23: so -2^31 is no bound too low.
	makes(t, summed(a, a, inner(1, 1, 1).of(127), most, scale{two30, -31}, odd), [][]int{{-1}, {0}}, [][]int{{-1}})
}

// a by 1, b by a half, the sum in 2^20ths.
func TestP8Add(t *testing.T) {
	n := summed(in(1, 2, 3).of(5), in(1, 2, 3).of(-7), inner(1, 2, 3).of(3), unit, scale{two30, 0}, scale{two30, -19})
	a := []int{15, -5, 5, 5, 15, 127}
	b := []int{-4, -10, -7, -6, -10, 127}
	// 10 + 1.5, -10 - 1.5, 0 + 0, 0 + 0.5, 10 - 1.5, 122 + 67; then the zero.
	makes(t, n, [][]int{a, b}, [][]int{{15, -9, 3, 4, 12, 127}})
	n.ops[0].lo, n.ops[0].hi = -8, 13
	makes(t, n, [][]int{a, b}, [][]int{{13, -8, 3, 4, 12, 13}})
	n.ops[0].from = []int{1, 0}
	// b by 1, a by a half: 3 + 5, -3 - 5, 0, 1 + 0, -3 + 5, 134 + 61.
	n.ops[0].lo, n.ops[0].hi = api.Lo, api.Hi
	makes(t, n, [][]int{a, b}, [][]int{{11, -5, 3, 4, 5, 127}})
	// One tensor on both sides.
	n = lone("Add of one tensor", op{kind: api.Add, scales: []scale{unit, unit, {two30, -19}}, lo: api.Lo, hi: api.Hi}, in(1, 1, 2).of(1), inner(1, 1, 2))
	n.ops[0].from = []int{0, 0}
	makes(t, n, [][]int{{11, -29}}, [][]int{{20, -60}})
}
