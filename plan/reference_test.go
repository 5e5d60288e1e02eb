package plan_test

import (
	"math/big"

	"netplan/api"
)

// What follows tells P8 a second time, otherwise than the program: numbers of any size, roundings of fractions, and of a window only what lies within.

func big2(n int) *big.Int { return new(big.Int).Lsh(big.NewInt(1), uint(n)) }

func heldBig(x *big.Int) *big.Int {
	lo := new(big.Int).Neg(big2(31))
	hi := new(big.Int).Sub(big2(31), big.NewInt(1))
	if x.Cmp(lo) < 0 {
		return lo
	}
	if x.Cmp(hi) > 0 {
		return hi
	}
	return x
}

// nearestUp: of two the greater. nearestOut: of two the greater in amount.
func nearestUp(r *big.Rat) *big.Int {
	r = new(big.Rat).Add(r, big.NewRat(1, 2))
	return new(big.Int).Div(r.Num(), r.Denom())
}

func nearestOut(r *big.Rat) *big.Int {
	if r.Sign() >= 0 {
		return nearestUp(r)
	}
	q := nearestUp(new(big.Rat).Neg(r))
	return q.Neg(q)
}

func scaledBig(x *big.Int, c scale) *big.Int {
	if c.shift > 0 {
		x = heldBig(new(big.Int).Mul(x, big2(c.shift)))
	}
	p := new(big.Int).Mul(x, big.NewInt(int64(c.mult)))
	h := heldBig(nearestUp(new(big.Rat).SetFrac(p, big2(31))))
	if c.shift < 0 {
		h = nearestOut(new(big.Rat).SetFrac(h, big2(-c.shift)))
	}
	return h
}

func between(x *big.Int, lo, hi int) int {
	if x.Cmp(big.NewInt(int64(lo))) < 0 {
		return lo
	}
	if x.Cmp(big.NewInt(int64(hi))) > 0 {
		return hi
	}
	return int(x.Int64())
}

func outBig(x *big.Int, c scale, zero int, o op) int {
	v := new(big.Int).Add(scaledBig(x, c), big.NewInt(int64(zero)))
	return between(v, o.lo, o.hi)
}

// starts: where the windows of n on a length begin.
func starts(n, length, stride int, same bool) []int {
	var list []int
	for at := 0; at < length; at += stride {
		if same || at+n <= length {
			list = append(list, at)
		}
	}
	if !same || len(list) == 0 {
		return list
	}
	over := list[len(list)-1] + n - length
	for i := range list {
		if over > 0 {
			list[i] -= over / 2
		}
	}
	return list
}

func (t tensor) nr(y, x, k int) int { return k + t.c*(x+t.w*y) }

// expected: what the document says that a net makes of inputs.
func expected(n net, in [][]int) [][]int {
	cells := make([][]int, len(n.tensors))
	for i, t := range n.tensors {
		cells[i] = make([]int, t.h*t.w*t.c)
		if t.kind == api.Input {
			copy(cells[i], in[0])
			in = in[1:]
		} else {
			copy(cells[i], t.data)
		}
	}
	for _, o := range n.ops {
		n.work(o, cells)
	}
	var outs [][]int
	for _, k := range n.outs {
		outs = append(outs, append([]int{}, cells[k]...))
	}
	return outs
}

func (n net) work(o op, cells [][]int) {
	switch o.kind {
	case api.Conv, api.Depth:
		n.conv(o, cells)
	case api.Dense:
		n.dense(o, cells)
	case api.Add:
		n.add(o, cells)
	case api.MaxPool, api.AvgPool:
		n.pool(o, cells)
	default:
		n.move(o, cells)
	}
}

func (n net) conv(o op, cells [][]int) {
	ta, tw, tz := n.tensors[o.from[0]], n.tensors[o.from[1]], n.tensors[o.to]
	a, w, b, z := cells[o.from[0]], cells[o.from[1]], cells[o.from[2]], cells[o.to]
	sums := make([]int, len(z))
	for i := range sums {
		sums[i] = b[i%tz.c]
	}
	for r, top := range starts(tw.h, ta.h, o.stride, o.same == 1) {
		for s, left := range starts(tw.w, ta.w, o.stride, o.same == 1) {
			for y := max(0, top); y < min(ta.h, top+tw.h); y++ {
				for x := max(0, left); x < min(ta.w, left+tw.w); x++ {
					for k := 0; k < ta.c; k++ {
						v := a[ta.nr(y, x, k)] - ta.zero
						if o.kind == api.Depth {
							sums[tz.nr(r, s, k)] += v * w[tw.nr(y-top, x-left, k)]
							continue
						}
						for c := 0; c < tz.c; c++ {
							sums[tz.nr(r, s, c)] += v * w[tw.nr(y-top, x-left, c*ta.c+k)]
						}
					}
				}
			}
		}
	}
	for i, s := range sums {
		z[i] = outBig(big.NewInt(int64(s)), o.scales[0], tz.zero, o)
	}
}

func (n net) dense(o op, cells [][]int) {
	a, w, b := cells[o.from[0]], cells[o.from[1]], cells[o.from[2]]
	for c := range cells[o.to] {
		sum := b[c]
		for i := range a {
			sum += w[c*len(a)+i] * (a[i] - n.tensors[o.from[0]].zero)
		}
		cells[o.to][c] = outBig(big.NewInt(int64(sum)), o.scales[0], n.tensors[o.to].zero, o)
	}
}

func (n net) add(o op, cells [][]int) {
	for i := range cells[o.to] {
		sum := big.NewInt(0)
		for s := 0; s < 2; s++ {
			v := cells[o.from[s]][i] - n.tensors[o.from[s]].zero
			x := new(big.Int).Mul(big.NewInt(int64(v)), big2(20))
			sum.Add(sum, scaledBig(x, o.scales[s]))
		}
		cells[o.to][i] = outBig(heldBig(sum), o.scales[2], n.tensors[o.to].zero, o)
	}
}

func (n net) pool(o op, cells [][]int) {
	ta, tz := n.tensors[o.from[0]], n.tensors[o.to]
	for r, top := range starts(o.size, ta.h, o.stride, false) {
		for s, left := range starts(o.size, ta.w, o.stride, false) {
			for k := 0; k < ta.c; k++ {
				sum, count, best := 0, 0, -1000
				for y := top; y < top+o.size; y++ {
					for x := left; x < left+o.size; x++ {
						v := cells[o.from[0]][ta.nr(y, x, k)]
						sum, count, best = sum+v, count+1, max(best, v)
					}
				}
				v := big.NewInt(int64(best))
				if o.kind == api.AvgPool {
					v = nearestOut(big.NewRat(int64(sum), int64(count)))
				}
				cells[o.to][tz.nr(r, s, k)] = between(v, o.lo, o.hi)
			}
		}
	}
}

func (n net) move(o op, cells [][]int) {
	ta, tz := n.tensors[o.from[0]], n.tensors[o.to]
	a, z := cells[o.from[0]], cells[o.to]
	switch o.kind {
	case api.Clamp:
		for i, v := range a {
			z[i] = max(o.lo, min(o.hi, v))
		}
	case api.Reshape:
		copy(z, a)
	case api.Pad:
		for i := range z {
			z[i] = tz.zero
		}
		for y := 0; y < ta.h; y++ {
			at := tz.nr(y+o.pads[0], o.pads[2], 0)
			copy(z[at:], a[ta.nr(y, 0, 0):ta.nr(y+1, 0, 0)])
		}
	case api.Concat:
		b, cb := cells[o.from[1]], n.tensors[o.from[1]].c
		var list []int
		for i := 0; i < ta.h*ta.w; i++ {
			list = append(list, a[i*ta.c:(i+1)*ta.c]...)
			list = append(list, b[i*cb:(i+1)*cb]...)
		}
		copy(z, list)
	}
}
