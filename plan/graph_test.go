package plan_test

import (
	"testing"

	"netplan/api"
)

// slots: of a kind, what each number that an operator reads stands for: the kind of tensors that it must name (Input: cells).
func slots(kind int) []int {
	switch kind {
	case api.Conv, api.Depth, api.Dense:
		return []int{api.Input, api.Const, api.Biases}
	case api.Add, api.Concat:
		return []int{api.Input, api.Input}
	}
	return []int{api.Input}
}

func TestP5NumbersOfTensors(t *testing.T) {
	for _, n := range samples() {
		for _, k := range []int{len(n.tensors), len(n.tensors) + 1, 127, 128, 255} {
			for i := range n.ops[0].from {
				m := sample(n.ops[0].kind)
				m.ops[0].from[i] = k
				refused(t, n.name+" reads what there is not", m.bytes(), api.ErrGraph)
			}
			m := sample(n.ops[0].kind)
			m.ops[0].to = k
			refused(t, n.name+" makes what there is not", m.bytes(), api.ErrGraph)
			for _, outs := range [][]int{{k}, {0, k}, {k, 0}} {
				m = sample(n.ops[0].kind)
				m.outs = outs
				refused(t, n.name+", an output that there is not", m.bytes(), api.ErrGraph)
			}
		}
	}
}

func TestP5KindsRead(t *testing.T) {
	for _, n := range samples() {
		for i, must := range slots(n.ops[0].kind) {
			for kind := api.Input; kind <= api.Const; kind++ {
				want := api.OK
				if must != api.Input && kind != must {
					want = api.ErrGraph
				}
				m := sample(n.ops[0].kind)
				m.tensors[i].kind = kind
				refused(t, n.name+" reads an Input or Const", m.bytes(), want)
			}
			m := sample(n.ops[0].kind)
			m.tensors[i].kind = api.Biases
			want := api.ErrGraph
			if must == api.Biases {
				want = api.OK
			}
			refused(t, n.name+" reads Biases", m.bytes(), want)

			refused(t, n.name+" reads an Inner", withInner(n.ops[0].kind, i).bytes(), innerRead(must))
		}
	}
}

func innerRead(must int) api.Errno {
	if must == api.Input {
		return api.OK
	}
	return api.ErrGraph
}

// withInner: the sample in which what stands in a slot is an Inner tensor that a Clamp makes ahead of it.
func withInner(kind int, slot int) net {
	m := sample(kind)
	x := m.tensors[slot]
	x.kind = api.Inner
	m.tensors = append(m.tensors, x)
	last := len(m.tensors) - 1
	m.ops[0].from[slot] = last
	from := slot
	if slots(kind)[slot] == api.Biases {
		m.tensors = append(m.tensors, tensor{kind: api.Input, h: x.h, w: x.w, c: x.c})
		from = last + 1
	}
	m.ops = []op{clamp(from, last), m.ops[0]}
	return m
}

func TestP5Order(t *testing.T) {
	for kind := api.Conv; kind <= api.Concat; kind++ {
		for i, must := range slots(kind) {
			if must != api.Input {
				continue
			}
			m := withInner(kind, i)
			m.ops[0], m.ops[1] = m.ops[1], m.ops[0]
			refused(t, m.name+" reads what is made behind it", m.bytes(), api.ErrGraph)
		}
	}
	for _, kind := range []int{api.Add, api.Concat, api.Clamp} {
		for i := range slots(kind) {
			m := sample(kind)
			m.ops[0].from[i] = m.ops[0].to
			refused(t, m.name+" reads what it makes", m.bytes(), api.ErrGraph)
		}
	}
	m := net{tensors: []tensor{in(1, 1, 1), inner(1, 1, 1), inner(1, 1, 1)}, ops: []op{clamp(2, 1), clamp(1, 2)}, outs: []int{1}}
	refused(t, "a ring", m.bytes(), api.ErrGraph)
	m.ops = []op{clamp(0, 2), clamp(2, 1)}
	refused(t, "made in another order than numbered", m.bytes(), api.OK)
}

func TestP5Makers(t *testing.T) {
	for _, n := range samples() {
		for _, kind := range []int{api.Input, api.Const, api.Biases} {
			m := sample(n.ops[0].kind)
			m.tensors[m.ops[0].to].kind = kind
			m.outs = []int{0}
			refused(t, n.name+" makes what is not Inner", m.bytes(), api.ErrGraph)
		}
		m := sample(n.ops[0].kind)
		m.ops = append(m.ops, m.ops[0])
		refused(t, n.name+" twice", m.bytes(), api.ErrGraph)
		m.ops = nil
		m.outs = []int{0}
		refused(t, n.name+" is left out", m.bytes(), api.ErrGraph)
		m = sample(n.ops[0].kind)
		m.tensors = append(m.tensors, inner(1, 1, 1))
		refused(t, n.name+" and an Inner that nobody makes", m.bytes(), api.ErrGraph)
	}
}

func TestP5Outputs(t *testing.T) {
	n := net{tensors: []tensor{in(1, 1, 2), consts(1, 1, 2), biases(2), inner(1, 1, 2), inner(1, 1, 2)},
		ops: []op{clamp(0, 3), clamp(1, 4)}, outs: []int{3, 0, 1, 1, 0, 3, 3}}
	refused(t, "outputs of all kinds, more than once", n.bytes(), api.OK)
	n.outs = []int{3, 2}
	refused(t, "Biases as an output", n.bytes(), api.ErrGraph)
	n.outs = []int{2}
	refused(t, "Biases as the output", n.bytes(), api.ErrGraph)
}

// turned: the sample with its tensors in another order: so that each of them is once the one of the number 0.
func turned(kind int, by int) net {
	m := sample(kind)
	n := sample(kind)
	k := len(n.tensors)
	for i, x := range m.tensors {
		n.tensors[(i+by)%k] = x
	}
	for i, from := range m.ops[0].from {
		n.ops[0].from[i] = (from + by) % k
	}
	n.ops[0].to = (m.ops[0].to + by) % k
	n.outs[0] = (m.outs[0] + by) % k
	return n
}

func TestP5AnyNumber(t *testing.T) {
	for _, n := range samples() {
		for by := range n.tensors {
			refused(t, n.name+", numbered otherwise", turned(n.ops[0].kind, by).bytes(), api.OK)
		}
	}
}

func TestP5MayBe(t *testing.T) {
	n := sample(api.Add)
	n.ops[0].from = []int{0, 0}
	refused(t, "one tensor read twice", n.bytes(), api.OK)
	n = sample(api.Conv)
	n.tensors = append(n.tensors, inner(3, 2, 6))
	n.ops = append(n.ops, clamp(1, 4))
	refused(t, "weights read as cells too", n.bytes(), api.OK)
	n = sample(api.Conv)
	n.outs = []int{0}
	refused(t, "an Inner that nobody reads", n.bytes(), api.OK)
}
