// Package ops: what an operator makes of the cells that it reads: promise P8 of the document.
package ops

import (
	"netplan/api"
	"netplan/model"
)

// job is one operator at work: what it reads, and what it makes.
type job struct {
	op      model.Op
	a, b    grid
	weights grid
	biases  grid
	made    model.Tensor
}

// Make answers the cells that an operator of a model makes, in a fresh list. a and b are the cells that it reads; b counts where it reads two tensors.
func Make(m *model.Model, o model.Op, a []int, b []int) []int {
	j := start(m, o, a, b)
	n := j.made.Cells()
	list := make([]int, 0, n)
	for y := 0; y < j.made.H; y++ {
		for x := 0; x < j.made.W; x++ {
			for k := 0; k < j.made.C; k++ {
				v := j.cell(y, x, k)
				list = append(list, v)
			}
		}
	}
	return list
}

func start(m *model.Model, o model.Op, a []int, b []int) *job {
	j := &job{op: o}
	j.made = m.Tensor(o.To)
	t := m.Tensor(o.A)
	j.a = lay(t, a)
	if o.ReadsTwo() {
		t = m.Tensor(o.B)
		j.b = lay(t, b)
	}
	if o.HasWeights() {
		t = m.Tensor(o.Weights)
		j.weights = lay(t, t.Data)
		t = m.Tensor(o.Biases)
		j.biases = lay(t, t.Data)
	}
	return j
}

// cell is what the operator makes at a row, place and channel.
func (j *job) cell(y int, x int, k int) int {
	switch j.op.Kind {
	case api.Conv:
		return j.weigh(y, x, k, 0, j.a.c, k*j.a.c)
	case api.Depth:
		return j.weigh(y, x, k, k, k+1, 0)
	case api.Dense:
		return j.weighAll(k)
	case api.Add:
		return j.add(y, x, k)
	case api.MaxPool, api.AvgPool:
		return j.pool(y, x, k)
	case api.Clamp:
		v := j.a.at(y, x, k)
		return j.ranged(int64(v))
	case api.Pad:
		return j.a.at(y-j.op.Above, x-j.op.Left, k)
	case api.Reshape:
		return j.a.nth((y*j.made.W+x)*j.made.C + k)
	case api.Concat:
		if k < j.a.c {
			return j.a.at(y, x, k)
		}
		return j.b.at(y, x, k-j.a.c)
	}
	return j.made.Zero
}

// ranged brings a number into the operator's range.
func (j *job) ranged(x int64) int {
	v := within(x, int64(j.op.Lo), int64(j.op.Hi))
	return int(v)
}

// out is OUT of P8, by the operator's scale of a number.
func (j *job) out(x int64, scale int) int {
	v := j.scaled(x, scale)
	return j.ranged(v + int64(j.made.Zero))
}

// scaled is SCALED by the operator's scale of a number.
func (j *job) scaled(x int64, scale int) int64 {
	if scale < 0 || scale >= len(j.op.Scales) {
		return 0
	}
	return scaled(x, j.op.Scales[scale])
}
