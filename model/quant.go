package model

import "netplan/api"

const (
	minMult  = 1 << 30
	maxMult  = 1<<31 - 1
	minShift = -31
	maxShift = 30
)

// quantsHold is P7. All Biases are looked at, also those that nobody reads.
func (m *Model) quantsHold() bool {
	for _, t := range m.Tensors {
		if !biasesHold(t) {
			return false
		}
	}
	for _, o := range m.Ops {
		if o.Lo > o.Hi || !scalesHold(o.Scales) {
			return false
		}
		if !m.zerosHold(o) {
			return false
		}
	}
	return true
}

func biasesHold(t Tensor) bool {
	if t.Kind != api.Biases {
		return true
	}
	for _, v := range t.Data {
		if v > api.MaxBias || v < -api.MaxBias {
			return false
		}
	}
	return t.Zero == 0
}

func scalesHold(list []Scale) bool {
	for _, c := range list {
		if c.Mult < minMult || c.Mult > maxMult || c.Shift < minShift || c.Shift > maxShift {
			return false
		}
	}
	return true
}

// zerosHold: an Add has scales that bring its zeros together; what moves or compares cells as they are needs one zero.
func (m *Model) zerosHold(o Op) bool {
	if o.HasWeights() {
		w := m.Tensor(o.Weights)
		return w.Zero == 0
	}
	if o.Kind == api.Add {
		return true
	}
	a := m.Tensor(o.A)
	z := m.Tensor(o.To)
	if o.ReadsTwo() {
		b := m.Tensor(o.B)
		return a.Zero == z.Zero && b.Zero == z.Zero
	}
	return a.Zero == z.Zero
}
