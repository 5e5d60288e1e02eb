package plan

import (
	"netplan/api"
	"netplan/model"
	"netplan/ops"
)

// Run: the outputs, cell by cell, in fresh lists: of inputs, which are only read. ErrInput: there are not as many, one is not as long as it must be, or a cell is out of range; or there is no plan, as beside an error.
func (p *Plan) Run(in [][]int) ([][]int, api.Errno) {
	if p == nil || p.net == nil || !p.takes(in) {
		return nil, api.ErrInput
	}
	cells := given(p.net, in)
	for _, o := range p.net.Ops {
		a := listed(cells, o.A)
		b := listed(cells, o.B)
		made := ops.Make(p.net, o, a, b)
		if o.To >= 0 && o.To < len(cells) {
			cells[o.To] = made
		}
	}
	return answer(p.net, cells), api.OK
}

// takes tells whether lists are inputs of the plan.
func (p *Plan) takes(in [][]int) bool {
	if len(in) != len(p.lengths) {
		return false
	}
	for i, list := range in {
		if len(list) != p.lengths[i] || !areCells(list) {
			return false
		}
	}
	return true
}

func areCells(list []int) bool {
	for _, v := range list {
		if v < api.Lo || v > api.Hi {
			return false
		}
	}
	return true
}

// given is, of each tensor, the cells that it has before an operator has worked.
func given(m *model.Model, in [][]int) [][]int {
	cells := make([][]int, len(m.Tensors))
	i := 0
	for n, t := range m.Tensors {
		if t.Kind == api.Const {
			cells[n] = t.Data
		}
		if t.Kind == api.Input && i < len(in) {
			cells[n] = in[i]
			i++
		}
	}
	return cells
}

// answer copies the outputs: they may be the caller's own inputs, or the model's constants, or one tensor more than once.
func answer(m *model.Model, cells [][]int) [][]int {
	outs := make([][]int, len(m.Outs))
	for i, n := range m.Outs {
		list := listed(cells, n)
		outs[i] = make([]int, len(list))
		copy(outs[i], list)
	}
	return outs
}

// listed is the list of a number; none, if there is none such.
func listed(lists [][]int, n int) []int {
	if n < 0 || n >= len(lists) {
		return nil
	}
	return lists[n]
}
