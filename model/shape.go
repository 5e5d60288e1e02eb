package model

import "netplan/api"

// shapesHold is P6.
func (m *Model) shapesHold() bool {
	for _, o := range m.Ops {
		if !m.shapeHolds(o) {
			return false
		}
	}
	return true
}

func (m *Model) shapeHolds(o Op) bool {
	a := m.Tensor(o.A)
	z := m.Tensor(o.To)
	switch o.Kind {
	case api.Conv, api.Depth:
		w := m.Tensor(o.Weights)
		b := m.Tensor(o.Biases)
		return convHolds(o, a, w, b, z)
	case api.Dense:
		w := m.Tensor(o.Weights)
		b := m.Tensor(o.Biases)
		return denseHolds(a, w, b, z)
	case api.Add:
		b := m.Tensor(o.B)
		return alike(a, z) && alike(b, z)
	case api.Clamp:
		return alike(a, z)
	case api.MaxPool, api.AvgPool:
		return poolHolds(o, a, z)
	case api.Pad:
		return z.H == a.H+o.Above+o.Below && z.W == a.W+o.Left+o.Right && z.C == a.C
	case api.Reshape:
		n := z.Cells()
		return a.Cells() == n
	case api.Concat:
		b := m.Tensor(o.B)
		return a.H == b.H && a.W == b.W && z.H == a.H && z.W == a.W && z.C == a.C+b.C
	}
	return false
}

func alike(a Tensor, z Tensor) bool {
	return a.H == z.H && a.W == z.W && a.C == z.C
}

// isRow tells whether a tensor is 1 x 1 x n.
func isRow(t Tensor, n int) bool {
	return t.H == 1 && t.W == 1 && t.C == n
}

// convHolds serves Conv and Depth: they differ in the channels alone.
func convHolds(o Op, a Tensor, w Tensor, b Tensor, z Tensor) bool {
	rows := windows(w.H, a.H, o.Stride, o.Same)
	places := windows(w.W, a.W, o.Stride, o.Same)
	if z.H != rows || z.W != places || !isRow(b, z.C) {
		return false
	}
	if o.Kind == api.Depth {
		return w.C == a.C && z.C == a.C
	}
	return w.C == a.C*z.C
}

func denseHolds(a Tensor, w Tensor, b Tensor, z Tensor) bool {
	if !isRow(z, w.H) || !isRow(b, w.H) {
		return false
	}
	return w.W == 1 && w.C == a.Cells()
}

func poolHolds(o Op, a Tensor, z Tensor) bool {
	rows := windows(o.Size, a.H, o.Stride, false)
	places := windows(o.Size, a.W, o.Stride, false)
	return z.H == rows && z.W == places && z.C == a.C
}

// windows counts the windows of n on a length. A stride or size of 0 gives none: that fits no tensor, for each has a row and a place.
func windows(n int, length int, stride int, same bool) int {
	if stride < 1 || n < 1 {
		return 0
	}
	if same {
		return (length + stride - 1) / stride
	}
	if n > length {
		return 0
	}
	return (length-n)/stride + 1
}
