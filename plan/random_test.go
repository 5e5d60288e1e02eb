package plan_test

import (
	"math/rand"

	"netplan/api"
)

// maker: draws models that are ones. A lively one begins with an Input, reads mostly what was made last, and has many Clamps.
type maker struct {
	r      *rand.Rand
	n      net
	lively bool
}

func (d *maker) from(lo, hi int) int { return lo + d.r.Intn(hi-lo+1) }

func (d *maker) cells(n int) []int {
	list := make([]int, n)
	for i := range list {
		list[i] = d.from(api.Lo, api.Hi)
	}
	return list
}

// span: a range, often a wide one, now and then of one number.
func (d *maker) span() (int, int) {
	switch d.r.Intn(4) {
	case 0:
		a, b := d.from(api.Lo, api.Hi), d.from(api.Lo, api.Hi)
		return min(a, b), max(a, b)
	case 1:
		return d.from(api.Lo, 0), d.from(0, api.Hi)
	}
	return api.Lo, api.Hi
}

// scale: one that leaves something of numbers of so many bits; now and then any.
func (d *maker) scale(bits int) scale {
	c := scale{d.from(1<<30, 1<<31-1), 8 - bits - d.from(0, 3)}
	switch d.r.Intn(8) {
	case 0:
		c.shift = d.from(-31, 30)
	case 1:
		c.mult = 1 << 30
	}
	return c
}

func (d *maker) zero() int {
	if d.r.Intn(4) == 0 {
		return 0
	}
	return d.from(api.Lo, api.Hi)
}

func (d *maker) add(t tensor) int {
	if t.kind == api.Const {
		t.data = d.cells(t.h * t.w * t.c)
	}
	d.n.tensors = append(d.n.tensors, t)
	return len(d.n.tensors) - 1
}

// readable: some tensor that may be read as cells.
func (d *maker) readable() int {
	if d.lively && len(d.n.ops) > 0 && d.r.Intn(3) > 0 {
		return d.n.ops[len(d.n.ops)-1].to
	}
	if d.lively && d.r.Intn(2) > 0 {
		return 0
	}
	for {
		k := d.r.Intn(len(d.n.tensors))
		if t := d.n.tensors[k]; t.kind != api.Biases {
			return k
		}
	}
}

// mate: a tensor of this shape and zero to go with another: one that is there, or a fresh Const.
func (d *maker) mate(t tensor, anyZero bool) int {
	for try := 0; try < 8; try++ {
		k := d.r.Intn(len(d.n.tensors))
		o := d.n.tensors[k]
		if o.kind != api.Biases && o.h == t.h && o.w == t.w && o.c == t.c && (anyZero || o.zero == t.zero) {
			return k
		}
	}
	t.kind = api.Const
	if anyZero {
		t.zero = d.zero()
	}
	return d.add(t)
}

// biases: some small, some of the greatest amount.
func (d *maker) biases(n int) int {
	t := biases(n)
	for i := 0; i < n; i++ {
		v := d.from(-3000, 3000)
		if d.r.Intn(10) == 0 {
			v = d.from(-api.MaxBias, api.MaxBias)
		}
		t.data = append(t.data, v)
	}
	return d.add(t)
}

func (d *maker) weighing(kind int) {
	a := d.readable()
	ta := d.n.tensors[a]
	o := op{kind: kind, stride: d.from(1, 3), same: d.r.Intn(2), scales: []scale{d.scale(14)}}
	o.lo, o.hi = d.span()
	h, w, c := d.from(1, 4), d.from(1, 4), d.from(1, 3)
	if o.same == 0 {
		h, w = min(h, ta.h), min(w, ta.w)
	}
	z := tensor{kind: api.Inner, zero: d.zero()}
	z.h, z.w, z.c = len(starts(h, ta.h, o.stride, o.same == 1)), len(starts(w, ta.w, o.stride, o.same == 1)), c
	weights := consts(h, w, ta.c*c)
	switch kind {
	case api.Depth:
		z.c = ta.c
		weights.c = ta.c
	case api.Dense:
		z.h, z.w = 1, 1
		weights = consts(c, 1, ta.h*ta.w*ta.c)
	}
	if !fits(weights) || !fits(z) {
		return
	}
	o.from = []int{a, d.add(weights), d.biases(z.c)}
	o.to = d.add(z)
	d.n.ops = append(d.n.ops, o)
}

func fits(t tensor) bool {
	return t.h < 256 && t.w < 256 && t.c < 256 && t.h*t.w*t.c <= 300
}

func (d *maker) pooling(kind int) {
	a := d.readable()
	ta := d.n.tensors[a]
	o := op{kind: kind, from: []int{a}, size: d.from(1, min(ta.h, ta.w)), stride: d.from(1, 3)}
	o.lo, o.hi = d.span()
	z := tensor{kind: api.Inner, zero: ta.zero, c: ta.c}
	z.h, z.w = len(starts(o.size, ta.h, o.stride, false)), len(starts(o.size, ta.w, o.stride, false))
	o.to = d.add(z)
	d.n.ops = append(d.n.ops, o)
}

func (d *maker) pairing(kind int) {
	a := d.readable()
	ta := d.n.tensors[a]
	z := tensor{kind: api.Inner, h: ta.h, w: ta.w, c: ta.c, zero: ta.zero}
	o := op{kind: kind}
	mate := ta
	if kind == api.Concat {
		mate.c = d.from(1, 3)
		z.c += mate.c
	} else {
		z.zero = d.zero()
		o.scales = []scale{d.scale(27 - d.from(0, 20)), d.scale(27 - d.from(0, 20)), d.scale(d.from(20, 30))}
		o.lo, o.hi = d.span()
	}
	if !fits(z) || len(d.n.tensors) > 21 {
		return
	}
	o.from = []int{a, d.mate(mate, kind == api.Add)}
	if d.r.Intn(2) == 0 {
		o.from[0], o.from[1] = o.from[1], o.from[0]
	}
	o.to = d.add(z)
	d.n.ops = append(d.n.ops, o)
}

func (d *maker) moving(kind int) {
	a := d.readable()
	ta := d.n.tensors[a]
	z := tensor{kind: api.Inner, h: ta.h, w: ta.w, c: ta.c, zero: ta.zero}
	o := op{kind: kind, from: []int{a}}
	switch kind {
	case api.Clamp:
		o.lo, o.hi = d.span()
	case api.Pad:
		for i := range o.pads {
			o.pads[i] = max(0, d.from(-1, 2))
		}
		z.h += o.pads[0] + o.pads[1]
		z.w += o.pads[2] + o.pads[3]
	case api.Reshape:
		all := z.h * z.w * z.c
		for z.h = d.from(1, all); all%z.h != 0; z.h-- {
		}
		for z.w = d.from(1, all/z.h); all/z.h%z.w != 0; z.w-- {
		}
		z.c = all / z.h / z.w
	}
	if !fits(z) {
		return
	}
	o.to = d.add(z)
	d.n.ops = append(d.n.ops, o)
}

// draw: a model that a seed says, every second one lively.
func draw(seed int64) net {
	d := &maker{r: rand.New(rand.NewSource(seed)), lively: seed%2 == 1}
	for i := d.from(0, 6) + 5; i > 5 || d.lively && len(d.n.tensors) == 0; i -= 3 {
		d.add(tensor{kind: api.Input, h: d.from(1, 6), w: d.from(1, 6), c: d.from(1, 3), zero: d.zero()})
	}
	for i := d.from(0, 2); i > 0 || len(d.n.tensors) == 0; i-- {
		d.add(tensor{kind: api.Const, h: d.from(1, 5), w: d.from(1, 5), c: d.from(1, 3), zero: d.zero()})
	}
	for i := d.from(0, 8); i > 0 && len(d.n.tensors) < 20; i-- {
		kind := d.from(api.Conv, api.Concat)
		if d.lively && d.r.Intn(3) == 0 {
			kind = api.Clamp
		}
		switch kind {
		case api.Conv, api.Depth, api.Dense:
			d.weighing(kind)
		case api.MaxPool, api.AvgPool:
			d.pooling(kind)
		case api.Add, api.Concat:
			d.pairing(kind)
		default:
			d.moving(kind)
		}
	}
	for i := d.from(1, 4); i > 0; i-- {
		d.n.outs = append(d.n.outs, d.readable())
	}
	// What was made last is looked at in any case.
	if len(d.n.ops) > 0 {
		d.n.outs = append(d.n.outs, d.n.ops[len(d.n.ops)-1].to)
	}
	return d.n
}

// inputs: cells for the Inputs of a net.
func (n net) inputs(r *rand.Rand) [][]int {
	d := &maker{r: r}
	var list [][]int
	for _, t := range n.tensors {
		if t.kind == api.Input {
			list = append(list, d.cells(t.h*t.w*t.c))
		}
	}
	return list
}
