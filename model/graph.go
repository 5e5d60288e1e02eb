package model

import "netplan/api"

// graphHolds is P5.
func (m *Model) graphHolds() bool {
	by, ok := m.makers()
	if !ok {
		return false
	}
	for i, o := range m.Ops {
		if !m.readsHold(by, i, o) {
			return false
		}
	}
	for _, n := range m.Outs {
		if !m.isCells(n) {
			return false
		}
	}
	return true
}

// makers answers which operator makes each tensor (-1: none), if operators make Inner tensors alone, and each of these just once.
func (m *Model) makers() ([]int, bool) {
	by := make([]int, len(m.Tensors))
	for n := range by {
		by[n] = -1
	}
	for i, o := range m.Ops {
		if !m.isKind(o.To, api.Inner) || by[o.To] >= 0 {
			return nil, false
		}
		by[o.To] = i
	}
	for n, t := range m.Tensors {
		if t.Kind == api.Inner && by[n] < 0 {
			return nil, false
		}
	}
	return by, true
}

func (m *Model) readsHold(by []int, i int, o Op) bool {
	if !m.isReady(by, i, o.A) {
		return false
	}
	if o.ReadsTwo() {
		return m.isReady(by, i, o.B)
	}
	if !o.HasWeights() {
		return true
	}
	if !m.isKind(o.Weights, api.Const) {
		return false
	}
	return m.isKind(o.Biases, api.Biases)
}

// isReady tells whether operator i may read tensor n as cells. What no operator makes has the maker -1, and stands ahead of all.
func (m *Model) isReady(by []int, i int, n int) bool {
	if !m.isCells(n) || n >= len(by) {
		return false
	}
	return by[n] < i
}

// isCells tells whether n names a tensor that may be read as cells, or be an output.
func (m *Model) isCells(n int) bool {
	return n >= 0 && n < len(m.Tensors) && m.Tensors[n].Kind != api.Biases
}

func (m *Model) isKind(n int, kind int) bool {
	return n >= 0 && n < len(m.Tensors) && m.Tensors[n].Kind == kind
}
