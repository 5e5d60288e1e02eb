package plan_test

import (
	"testing"

	"netplan/api"
	"netplan/plan"
)

// tensor, op, net: a model that a test can bend before it becomes bytes.
type tensor struct {
	kind, h, w, c, zero int
	data                []int // cells behind its end are 0
}

type scale struct{ mult, shift int }

type op struct {
	kind         int
	from         []int
	to           int
	size, stride int
	same         int
	scales       []scale
	lo, hi       int
	pads         [4]int
}

type net struct {
	name    string
	tensors []tensor
	ops     []op
	outs    []int
}

func word(v int) []byte {
	return []byte{byte(v), byte(v >> 8), byte(v >> 16), byte(v >> 24)}
}

func (t tensor) bytes() []byte {
	s := []byte{byte(t.kind), byte(t.h), byte(t.w), byte(t.c), byte(t.zero)}
	if t.kind != api.Const && t.kind != api.Biases {
		return s
	}
	for i := 0; i < t.h*t.w*t.c; i++ {
		v := 0
		if i < len(t.data) {
			v = t.data[i]
		}
		if t.kind == api.Const {
			s = append(s, byte(v))
		} else {
			s = append(s, word(v)...)
		}
	}
	return s
}

func (o op) bytes() []byte {
	s := []byte{byte(o.kind)}
	for _, n := range o.from {
		s = append(s, byte(n))
	}
	s = append(s, byte(o.to))
	switch o.kind {
	case api.Conv, api.Depth:
		s = append(s, byte(o.stride), byte(o.same))
	case api.MaxPool, api.AvgPool:
		s = append(s, byte(o.size), byte(o.stride))
	case api.Pad:
		s = append(s, byte(o.pads[0]), byte(o.pads[1]), byte(o.pads[2]), byte(o.pads[3]))
	}
	for _, c := range o.scales {
		s = append(s, word(c.mult)...)
		s = append(s, byte(c.shift))
	}
	if o.kind >= api.Conv && o.kind <= api.Clamp {
		s = append(s, byte(o.lo), byte(o.hi))
	}
	return s
}

func (n net) bytes() string {
	s := []byte("tfl1")
	s = append(s, byte(len(n.tensors)))
	for _, t := range n.tensors {
		s = append(s, t.bytes()...)
	}
	s = append(s, byte(len(n.ops)))
	for _, o := range n.ops {
		s = append(s, o.bytes()...)
	}
	s = append(s, byte(len(n.outs)))
	for _, k := range n.outs {
		s = append(s, byte(k))
	}
	return string(s)
}

func in(h, w, c int) tensor     { return tensor{kind: api.Input, h: h, w: w, c: c} }
func consts(h, w, c int) tensor { return tensor{kind: api.Const, h: h, w: w, c: c} }
func biases(c int) tensor       { return tensor{kind: api.Biases, h: 1, w: 1, c: c} }
func inner(h, w, c int) tensor  { return tensor{kind: api.Inner, h: h, w: w, c: c} }

func clamp(from, to int) op {
	return op{kind: api.Clamp, from: []int{from}, to: to, lo: -3, hi: 3}
}

var fair = scale{1 << 30, -2}

// samples: of each kind of operator a model that is one, in which no length may be changed alone. The operator makes the last tensor.
func samples() []net {
	one := []scale{fair}
	three := []scale{fair, {1<<31 - 1, 30}, {1<<30 + 5, -31}}
	return []net{
		{"Conv", []tensor{in(5, 4, 2), consts(3, 2, 6), biases(3), inner(3, 3, 3)},
			[]op{{kind: api.Conv, from: []int{0, 1, 2}, to: 3, stride: 1, scales: one, lo: -5, hi: 5}}, []int{3}},
		{"Depth", []tensor{in(4, 4, 3), consts(2, 3, 3), biases(3), inner(3, 2, 3)},
			[]op{{kind: api.Depth, from: []int{0, 1, 2}, to: 3, stride: 1, scales: one, lo: -5, hi: 5}}, []int{3}},
		{"Dense", []tensor{in(2, 1, 3), consts(4, 1, 6), biases(4), inner(1, 1, 4)},
			[]op{{kind: api.Dense, from: []int{0, 1, 2}, to: 3, scales: one, lo: -5, hi: 5}}, []int{3}},
		{"Add", []tensor{in(2, 3, 2), in(2, 3, 2), inner(2, 3, 2)},
			[]op{{kind: api.Add, from: []int{0, 1}, to: 2, scales: three, lo: -5, hi: 5}}, []int{2}},
		{"MaxPool", []tensor{in(4, 5, 2), inner(3, 4, 2)},
			[]op{{kind: api.MaxPool, from: []int{0}, to: 1, size: 2, stride: 1, lo: -5, hi: 5}}, []int{1}},
		{"AvgPool", []tensor{in(4, 5, 2), inner(2, 3, 2)},
			[]op{{kind: api.AvgPool, from: []int{0}, to: 1, size: 3, stride: 1, lo: -5, hi: 5}}, []int{1}},
		{"Clamp", []tensor{in(2, 3, 2), inner(2, 3, 2)},
			[]op{{kind: api.Clamp, from: []int{0}, to: 1, lo: -5, hi: 5}}, []int{1}},
		{"Pad", []tensor{in(2, 3, 2), inner(5, 10, 2)},
			[]op{{kind: api.Pad, from: []int{0}, to: 1, pads: [4]int{1, 2, 3, 4}}}, []int{1}},
		{"Reshape", []tensor{in(2, 3, 4), inner(4, 6, 1)},
			[]op{{kind: api.Reshape, from: []int{0}, to: 1}}, []int{1}},
		{"Concat", []tensor{in(2, 3, 1), in(2, 3, 2), inner(2, 3, 3)},
			[]op{{kind: api.Concat, from: []int{0, 1}, to: 2}}, []int{2}},
	}
}

// sample: the one of a kind.
func sample(kind int) net { return samples()[kind-1] }

// refused: Compile must answer this error, and a plan just where it is OK.
func refused(t *testing.T, what string, s string, want api.Errno) {
	t.Helper()
	p, e := plan.Compile(s)
	if e != want || (p != nil) != (want == api.OK) {
		t.Errorf("%s (%.60q): Compile = %v, %d, want %d", what, s, p != nil, e, want)
	}
}

func TestSamplesAreModels(t *testing.T) {
	for i, n := range samples() {
		if n.ops[0].kind != i+1 {
			t.Fatalf("%s stands in the wrong place", n.name)
		}
		refused(t, n.name, n.bytes(), api.OK)
	}
}
