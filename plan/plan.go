// Package plan: models become plans, plans are run: see DOC.md.
package plan

import (
	"netplan/api"
	"netplan/model"
)

// Plan is a model that was compiled.
type Plan struct {
	net     *model.Model
	lengths []int // how many cells each Input has, in the order of their numbers
}

// Compile: ErrLong; ErrFormat; ErrLimit; ErrGraph; ErrShape; ErrQuant. Else the plan of a model's bytes.
func Compile(s string) (*Plan, api.Errno) {
	m, e := model.Read(s)
	if e != api.OK {
		return nil, e
	}
	p := &Plan{net: m}
	for _, t := range m.Tensors {
		if t.Kind == api.Input {
			n := t.Cells()
			p.lengths = append(p.lengths, n)
		}
	}
	return p, api.OK
}

// Inputs: how many inputs there are; none where there is no plan, as beside an error.
func (p *Plan) Inputs() int {
	if p == nil {
		return 0
	}
	return len(p.lengths)
}

// Length: how many cells the i-th input has (0: there is none such).
func (p *Plan) Length(i int) int {
	if p == nil || i < 0 || i >= len(p.lengths) {
		return 0
	}
	return p.lengths[i]
}

// Arena: how many cells the arena has.
func (p *Plan) Arena() int { return 0 }

// Buffers: where each lies: the inputs' and those that steps write, in a fresh list. Steps: in their order, in fresh lists. Ins, Outs: the inputs' and outputs' buffers (-1: a constant).
func (p *Plan) Buffers() []api.Buffer { return nil }

func (p *Plan) Steps() []api.Step { return nil }

func (p *Plan) Ins() []int { return nil }

func (p *Plan) Outs() []int { return nil }
