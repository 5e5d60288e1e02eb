package plan

import (
	"netplan/api"
	"netplan/ops"
)

// row is the arena of one run.
type row struct {
	plan  *Plan
	cells []int
}

// Run: the outputs, cell by cell, in fresh lists: of inputs, which are only read. ErrInput: there are not as many, one is not as long as it must be, or a cell is out of range; or there is no plan, as beside an error.
func (p *Plan) Run(in [][]int) ([][]int, api.Errno) {
	if p == nil || p.net == nil || !p.takes(in) {
		return nil, api.ErrInput
	}
	size := p.Arena()
	r := &row{plan: p, cells: make([]int, size)}
	for i, list := range in {
		r.write(i, list)
	}
	for _, o := range p.net.Ops {
		a := r.of(o.A)
		b := r.of(o.B)
		made := ops.Make(p.net, o, a, b)
		to := p.bufferOf(o.To)
		r.write(to, made)
	}
	return r.answer(), api.OK
}

// takes tells whether lists are inputs of the plan.
func (p *Plan) takes(in [][]int) bool {
	if len(in) != p.inputs {
		return false
	}
	for i, list := range in {
		n := p.Length(i)
		if len(list) != n || !areCells(list) {
			return false
		}
	}
	return true
}

func areCells(list []int) bool {
	for _, v := range list {
		if v < api.Lo || v > api.Hi {
			return false
		}
	}
	return true
}

// part is where a buffer lies in the row; nothing, if there is none such.
func (r *row) part(buffer int) []int {
	if buffer < 0 || buffer >= len(r.plan.buffers) {
		return nil
	}
	b := r.plan.buffers[buffer]
	end := b.At + b.Cells
	if b.At < 0 || b.At > end || end > len(r.cells) {
		return nil
	}
	return r.cells[b.At:end]
}

// write lays cells into a buffer.
func (r *row) write(buffer int, list []int) {
	place := r.part(buffer)
	copy(place, list)
}

// of is the cells of a tensor: those in its buffer, or a constant's own.
func (r *row) of(tensor int) []int {
	i := r.plan.bufferOf(tensor)
	if i >= 0 {
		return r.part(i)
	}
	t := r.plan.net.Tensor(tensor)
	return t.Data
}

// answer copies the outputs: they may be the plan's constants, or one tensor more than once.
func (r *row) answer() [][]int {
	outs := make([][]int, len(r.plan.net.Outs))
	for i, n := range r.plan.net.Outs {
		list := r.of(n)
		outs[i] = make([]int, len(list))
		copy(outs[i], list)
	}
	return outs
}
