// Package plan: models become plans, plans are run: see DOC.md.
package plan

import (
	"netplan/api"
	"netplan/layout"
	"netplan/model"
	"netplan/shrink"
)

// Plan is a model that was compiled. Its operators are the steps. The Inputs have the first buffers, in the order of their numbers.
type Plan struct {
	net     *model.Model
	inputs  int
	numbers []int // of each tensor its buffer (-1: it has none)
	buffers []api.Buffer
}

// Compile: ErrLong; ErrFormat; ErrLimit; ErrGraph; ErrShape; ErrQuant. Else the plan of a model's bytes.
func Compile(s string) (*Plan, api.Errno) {
	m, e := model.Read(s)
	if e != api.OK {
		return nil, e
	}
	shrink.Shrink(m)
	d := drafted(m)
	b := layout.Lay(d.lives)
	return &Plan{net: m, inputs: d.inputs, numbers: d.numbers, buffers: b}, api.OK
}

// Inputs: how many inputs there are; none where there is no plan, as beside an error.
func (p *Plan) Inputs() int {
	if p == nil {
		return 0
	}
	return p.inputs
}

// Length: how many cells the i-th input has (0: there is none such).
func (p *Plan) Length(i int) int {
	if p == nil || i < 0 || i >= p.inputs || i >= len(p.buffers) {
		return 0
	}
	return p.buffers[i].Cells
}

// Arena: how many cells the arena has.
func (p *Plan) Arena() int {
	if p == nil {
		return 0
	}
	return layout.End(p.buffers)
}

// Buffers: where each lies: the inputs' and those that steps write, in a fresh list.
func (p *Plan) Buffers() []api.Buffer {
	if p == nil {
		return nil
	}
	list := make([]api.Buffer, len(p.buffers))
	copy(list, p.buffers)
	return list
}

// Steps: in their order, in fresh lists.
func (p *Plan) Steps() []api.Step {
	if p == nil || p.net == nil {
		return nil
	}
	list := make([]api.Step, len(p.net.Ops))
	for i, o := range p.net.Ops {
		read := o.Reads()
		from := p.buffersOf(read)
		to := p.bufferOf(o.To)
		list[i] = api.Step{Kind: o.Kind, From: from, To: to}
	}
	return list
}

// Ins: the inputs' buffers, in a fresh list.
func (p *Plan) Ins() []int {
	if p == nil {
		return nil
	}
	list := make([]int, p.inputs)
	for i := range list {
		list[i] = i
	}
	return list
}

// Outs: the outputs' buffers (-1: a constant), in a fresh list.
func (p *Plan) Outs() []int {
	if p == nil || p.net == nil {
		return nil
	}
	return p.buffersOf(p.net.Outs)
}

// buffersOf answers the buffers of tensors, in a fresh list.
func (p *Plan) buffersOf(tensors []int) []int {
	list := make([]int, len(tensors))
	for i, n := range tensors {
		list[i] = p.bufferOf(n)
	}
	return list
}

// bufferOf is the buffer of a tensor; -1, if it is constant.
func (p *Plan) bufferOf(n int) int {
	if n < 0 || n >= len(p.numbers) {
		return -1
	}
	return p.numbers[n]
}
