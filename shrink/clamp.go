package shrink

import (
	"netplan/api"
	"netplan/model"
)

// joinClamps gives the ranges of Clamps to the steps that write what they read. Of several Clamps in a row each finds the step that has taken the one ahead.
func joinClamps(m *model.Model) {
	var left []model.Op
	for _, o := range m.Ops {
		i := host(m, left, o)
		if i >= 0 && i < len(left) {
			left[i] = joined(left[i], o)
		} else {
			left = append(left, o)
		}
	}
	m.Ops = left
}

// host is which of the steps has an operator's range beside its own (-1: none, the operator is a step).
func host(m *model.Model, steps []model.Op, o model.Op) int {
	if o.Kind != api.Clamp {
		return -1
	}
	n := uses(m, o.A)
	for i, s := range steps {
		has := s.HasRange()
		if n == 1 && has && s.To == o.A {
			return i
		}
	}
	return -1
}

// joined is a step that makes what the Clamp behind it made. Both tensors have one shape and one zero, so that nothing else need change.
func joined(s model.Op, c model.Op) model.Op {
	s.To = c.To
	s.Lo = within(s.Lo, c)
	s.Hi = within(s.Hi, c)
	return s
}

func within(x int, c model.Op) int {
	if x < c.Lo {
		return c.Lo
	}
	if x > c.Hi {
		return c.Hi
	}
	return x
}
