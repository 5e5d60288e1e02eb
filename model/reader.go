package model

import "netplan/api"

const head = "tfl1"

// reader walks over the bytes. Once it is bad it stays bad and reads zeros, so that only the end need ask for it.
type reader struct {
	s   string
	at  int
	bad bool
}

// parse reads all bytes, whatever the numbers in them say: a wrong form comes ahead of every other fault.
func parse(s string) (*Model, api.Errno) {
	if len(s) > api.MaxBytes {
		return nil, api.ErrLong
	}
	r := &reader{s: s}
	m := &Model{}
	r.skipHead()
	m.Tensors = r.tensors()
	m.Ops = r.ops()
	m.Outs = r.outs()
	if r.bad || r.at != len(s) {
		return nil, api.ErrFormat
	}
	return m, api.OK
}

func (r *reader) skipHead() {
	if len(r.s) < len(head) || r.s[:len(head)] != head {
		r.bad = true
		return
	}
	r.at = len(head)
}

// plain reads a byte without a sign.
func (r *reader) plain() int {
	if r.bad || r.at >= len(r.s) {
		r.bad = true
		return 0
	}
	b := int(r.s[r.at])
	r.at++
	return b
}

// within reads a byte that must be from lo to hi.
func (r *reader) within(lo int, hi int) int {
	b := r.plain()
	if b < lo || b > hi {
		r.bad = true
		return 0
	}
	return b
}

// signed reads a byte with a sign.
func (r *reader) signed() int {
	b := r.plain()
	if b > api.Hi {
		return b - 256
	}
	return b
}

// word reads four bytes. The sign is that of the highest, so that no step leaves 32 bits.
func (r *reader) word() int {
	a := r.plain()
	b := r.plain()
	c := r.plain()
	d := r.signed()
	return d*(1<<24) + c*(1<<16) + b*(1<<8) + a
}

func (r *reader) tensors() []Tensor {
	n := r.plain()
	var list []Tensor
	for i := 0; i < n && !r.bad; i++ {
		t := r.tensor()
		list = append(list, t)
	}
	return list
}

func (r *reader) tensor() Tensor {
	t := Tensor{}
	t.Kind = r.within(api.Input, api.Inner)
	t.H = r.plain()
	t.W = r.plain()
	t.C = r.plain()
	t.Zero = r.signed()
	n := t.Cells()
	if t.Kind == api.Const {
		t.Data = r.cells(n)
	}
	if t.Kind == api.Biases {
		t.Data = r.words(n)
	}
	return t
}

// has tells whether n bytes are left. It is asked before room is made: three bytes can tell of 16 million cells.
func (r *reader) has(n int) bool {
	if n > len(r.s)-r.at {
		r.bad = true
	}
	return !r.bad
}

func (r *reader) cells(n int) []int {
	if !r.has(n) {
		return nil
	}
	list := make([]int, n)
	for i := range list {
		list[i] = r.signed()
	}
	return list
}

func (r *reader) words(n int) []int {
	if !r.has(4 * n) {
		return nil
	}
	list := make([]int, n)
	for i := range list {
		list[i] = r.word()
	}
	return list
}

func (r *reader) ops() []Op {
	n := r.plain()
	var list []Op
	for i := 0; i < n && !r.bad; i++ {
		o := r.op()
		list = append(list, o)
	}
	return list
}

func (r *reader) op() Op {
	o := Op{}
	o.Kind = r.within(api.Conv, api.Concat)
	o.A = r.plain()
	if o.HasWeights() {
		o.Weights = r.plain()
		o.Biases = r.plain()
	}
	if o.ReadsTwo() {
		o.B = r.plain()
	}
	o.To = r.plain()
	r.ownNumbers(&o)
	return o
}

// ownNumbers reads what stands behind the tensors' numbers: of every kind it begins with what that kind alone has, and ends with scales and a range.
func (r *reader) ownNumbers(o *Op) {
	switch o.Kind {
	case api.Conv, api.Depth:
		o.Stride = r.plain()
		same := r.within(0, 1)
		o.Same = same == 1
	case api.MaxPool, api.AvgPool:
		o.Size = r.plain()
		o.Stride = r.plain()
	case api.Pad:
		o.Above = r.plain()
		o.Below = r.plain()
		o.Left = r.plain()
		o.Right = r.plain()
	}
	if o.HasWeights() {
		o.Scales = r.scales(1)
	}
	if o.Kind == api.Add {
		o.Scales = r.scales(3)
	}
	if o.HasRange() {
		o.Lo = r.signed()
		o.Hi = r.signed()
	}
}

func (r *reader) scales(n int) []Scale {
	var list []Scale
	for i := 0; i < n; i++ {
		c := Scale{}
		c.Mult = r.word()
		c.Shift = r.signed()
		list = append(list, c)
	}
	return list
}

func (r *reader) outs() []int {
	n := r.plain()
	if !r.has(n) {
		return nil
	}
	list := make([]int, n)
	for i := range list {
		list[i] = r.plain()
	}
	return list
}
