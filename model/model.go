// Package model: bytes become a model, and a model is checked: promises P3 to P7 of the document.
package model

import "netplan/api"

// Tensor is H rows of W places of C channels. Data are the cells of a Const or of Biases; other kinds have none here.
type Tensor struct {
	Kind    int
	H, W, C int
	Zero    int
	Data    []int
}

// Scale is a multiplier and a shift.
type Scale struct {
	Mult, Shift int
}

// Op is an operator. A and B are the tensors that it reads as cells, To is the one that it makes.
// A field that its kind does not have is 0, or nil: so ask ReadsTwo and HasWeights ahead of B, Weights and Biases.
type Op struct {
	Kind            int
	A, B            int
	Weights, Biases int
	To              int
	Size, Stride    int
	Same            bool
	Scales          []Scale // in the order of the bytes: of an Add those of a, of b, of the sum
	Lo, Hi          int
	Above, Below    int
	Left, Right     int
}

// Model is what the bytes tell. Outs are the numbers of tensors.
type Model struct {
	Tensors []Tensor
	Ops     []Op
	Outs    []int
}

// Read answers the model that the bytes are, or the first error that applies to them.
func Read(s string) (*Model, api.Errno) {
	m, e := parse(s)
	if e != api.OK {
		return nil, e
	}
	e = m.check()
	if e != api.OK {
		return nil, e
	}
	return m, api.OK
}

// check takes the promises in their order over the whole model: each check relies on those ahead of it.
func (m *Model) check() api.Errno {
	if !m.limitsHold() {
		return api.ErrLimit
	}
	if !m.graphHolds() {
		return api.ErrGraph
	}
	if !m.shapesHold() {
		return api.ErrShape
	}
	if !m.quantsHold() {
		return api.ErrQuant
	}
	return api.OK
}

// Cells is how many cells a tensor has.
func (t Tensor) Cells() int {
	return t.H * t.W * t.C
}

// Tensor is the tensor of a number; one without cells, if there is none such.
func (m *Model) Tensor(n int) Tensor {
	if n < 0 || n >= len(m.Tensors) {
		return Tensor{}
	}
	return m.Tensors[n]
}

// HasWeights tells whether an operator reads weights and biases beside its cells.
func (o Op) HasWeights() bool {
	return o.Kind == api.Conv || o.Kind == api.Depth || o.Kind == api.Dense
}

// ReadsTwo tells whether an operator reads the cells of two tensors.
func (o Op) ReadsTwo() bool {
	return o.Kind == api.Add || o.Kind == api.Concat
}

// Reads answers the tensors that an operator reads, in the order of the bytes: cells, then weights and biases, or the second cells.
func (o Op) Reads() []int {
	if o.HasWeights() {
		return []int{o.A, o.Weights, o.Biases}
	}
	if o.ReadsTwo() {
		return []int{o.A, o.B}
	}
	return []int{o.A}
}

// HasRange tells whether an operator brings what it makes into a range.
func (o Op) HasRange() bool {
	return o.Kind >= api.Conv && o.Kind <= api.Clamp
}
