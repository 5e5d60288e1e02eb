package ops

import "netplan/api"

// pool makes a cell of a MaxPool or an AvgPool. All their windows lie within, so each has as many cells.
func (j *job) pool(y int, x int, k int) int {
	top := y * j.op.Stride
	left := x * j.op.Stride
	best := api.Lo
	sum := 0
	for i := 0; i < j.op.Size; i++ {
		for p := 0; p < j.op.Size; p++ {
			v := j.a.at(top+i, left+p, k)
			sum += v
			if v > best {
				best = v
			}
		}
	}
	if j.op.Kind == api.MaxPool {
		return j.ranged(int64(best))
	}
	mean := nearest(int64(sum), int64(j.op.Size*j.op.Size))
	return j.ranged(mean)
}
