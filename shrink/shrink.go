// Package shrink: a model loses the operators that need not be steps, and makes the same: promise P11 of the document.
package shrink

import (
	"netplan/api"
	"netplan/model"
	"netplan/ops"
)

// Shrink leaves those operators in a model that are steps. All tensors keep their numbers; one that can be known ahead of a run becomes a Const.
// What nobody wants goes ahead of the Clamps, for it does not count as a reader of what a Clamp reads.
func Shrink(m *model.Model) {
	fold(m)
	dropUnread(m)
	joinClamps(m)
	forget(m)
}

// fold makes what can be made of constants alone. What an operator reads is made by one ahead of it, so that one walk finds all.
func fold(m *model.Model) {
	var left []model.Op
	for _, o := range m.Ops {
		if !isKnown(m, o) {
			left = append(left, o)
			continue
		}
		a := m.Tensor(o.A)
		b := m.Tensor(o.B)
		made := ops.Make(m, o, a.Data, b.Data)
		if o.To >= 0 && o.To < len(m.Tensors) {
			m.Tensors[o.To].Kind = api.Const
			m.Tensors[o.To].Data = made
		}
	}
	m.Ops = left
}

// isKnown tells whether all that an operator reads is constant.
func isKnown(m *model.Model, o model.Op) bool {
	for _, n := range o.Reads() {
		t := m.Tensor(n)
		if t.Kind == api.Input || t.Kind == api.Inner {
			return false
		}
	}
	return true
}

// dropUnread goes from the last operator to the first: one that goes may have been the only reader of what stands ahead of it.
func dropUnread(m *model.Model) {
	for i := len(m.Ops) - 1; i >= 0; i-- {
		n := uses(m, m.Ops[i].To)
		if n == 0 {
			m.Ops = without(m.Ops, i)
		}
	}
}

func without(list []model.Op, i int) []model.Op {
	var left []model.Op
	for k, o := range list {
		if k != i {
			left = append(left, o)
		}
	}
	return left
}

// uses counts how often a tensor is read, or is an output.
func uses(m *model.Model, n int) int {
	sum := 0
	for _, o := range m.Ops {
		for _, k := range o.Reads() {
			if k == n {
				sum++
			}
		}
	}
	for _, k := range m.Outs {
		if k == n {
			sum++
		}
	}
	return sum
}

// forget lets go of the cells of constants that are of no more use: a plan keeps no more than its runs need.
func forget(m *model.Model) {
	for n := range m.Tensors {
		k := uses(m, n)
		if k == 0 {
			m.Tensors[n].Data = nil
		}
	}
}
