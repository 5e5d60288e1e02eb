package model

import "netplan/api"

// limitsHold is P4. Tensors are counted ahead of their cells, so that the sum stays small.
func (m *Model) limitsHold() bool {
	if len(m.Tensors) > api.MaxTensors || len(m.Ops) > api.MaxOps || len(m.Outs) == 0 {
		return false
	}
	sum := 0
	for _, t := range m.Tensors {
		n := t.Cells()
		if n < 1 || n > api.MaxCells {
			return false
		}
		if t.Kind == api.Input || t.Kind == api.Inner {
			sum += n
		}
	}
	return sum <= api.MaxArena
}
