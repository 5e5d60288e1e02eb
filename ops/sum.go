package ops

// begin is where a window of n begins. With 'same' windows begin earlier by half of what the last one would stick out behind the length; without it none sticks out.
func begin(window int, windows int, n int, length int, stride int) int {
	over := (windows-1)*stride + n - length
	if over < 0 {
		over = 0
	}
	return window*stride - over/2
}

// weigh makes a cell of a Conv or Depth in channel o. It sums over the channels of the window from first on, ahead of last; the weight of channel k stands at channel shift + k.
func (j *job) weigh(y int, x int, o int, first int, last int, shift int) int {
	top := begin(y, j.made.H, j.weights.h, j.a.h, j.op.Stride)
	left := begin(x, j.made.W, j.weights.w, j.a.w, j.op.Stride)
	sum := j.biases.nth(o)
	for i := 0; i < j.weights.h; i++ {
		for p := 0; p < j.weights.w; p++ {
			for k := first; k < last; k++ {
				v := j.a.at(top+i, left+p, k)
				w := j.weights.at(i, p, shift+k)
				sum += (v - j.a.zero) * w
			}
		}
	}
	return j.out(int64(sum), 0)
}

// weighAll makes a cell of a Dense in channel o.
func (j *job) weighAll(o int) int {
	sum := j.biases.nth(o)
	for i, v := range j.a.cells {
		w := j.weights.at(o, 0, i)
		sum += (v - j.a.zero) * w
	}
	return j.out(int64(sum), 0)
}

// add makes a cell of an Add.
func (j *job) add(y int, x int, k int) int {
	v := j.a.at(y, x, k)
	w := j.b.at(y, x, k)
	a := j.scaled(int64(v-j.a.zero)<<20, 0)
	b := j.scaled(int64(w-j.b.zero)<<20, 1)
	sum := held(a + b)
	return j.out(sum, 2)
}
