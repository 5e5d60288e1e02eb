package model

import (
	"reflect"
	"testing"

	"netplan/api"
)

// What is read is what the document's table tells, number by number, each with its sign.
func TestP3WhatIsRead(t *testing.T) {
	s := "tfl1" +
		"\x0a" +
		"\x00\x02\x03\x01\x80" + // 0: an Input
		"\x01\x01\x01\x01\x00\x81" + // 1: weights
		"\x02\x01\x01\x01\x00\x00\x00\x00\xc0" + // 2: biases
		"\x03\x02\x03\x01\x7f" + // 3: of Conv
		"\x03\x02\x03\x01\xff" + // 4: of Depth
		"\x01\x01\x01\x06\x00\x01\x02\x03\xff\xfe\x80" + // 5: weights
		"\x03\x01\x01\x01\x00" + // 6: of Dense
		"\x03\x02\x03\x01\x05" + // 7: of Add
		"\x03\x04\x08\x01\x05" + // 8: of Pad
		"\x03\x01\x01\x01\x05" + // 9: of MaxPool
		"\x06" +
		"\x01\x00\x01\x02\x03\x01\x00\x00\x00\x00\x40\xfe\x80\x7f" +
		"\x02\x00\x01\x02\x04\x01\x01\xff\xff\xff\x7f\x1e\xff\x00" +
		"\x03\x00\x05\x02\x06\x04\x03\x02\x41\xe1\x01\x02" +
		"\x04\x03\x04\x07\x01\x00\x00\x40\x01\x02\x00\x00\x40\x02\x03\x00\x00\x40\x03\xf0\x0f" +
		"\x08\x07\x08\x02\x00\x01\x04" +
		"\x05\x07\x09\x02\x02\xfb\x05" +
		"\x03\x00\x07\x05"
	want := &Model{
		Tensors: []Tensor{
			{Kind: api.Input, H: 2, W: 3, C: 1, Zero: -128},
			{Kind: api.Const, H: 1, W: 1, C: 1, Data: []int{-127}},
			{Kind: api.Biases, H: 1, W: 1, C: 1, Data: []int{-1 << 30}},
			{Kind: api.Inner, H: 2, W: 3, C: 1, Zero: 127},
			{Kind: api.Inner, H: 2, W: 3, C: 1, Zero: -1},
			{Kind: api.Const, H: 1, W: 1, C: 6, Data: []int{1, 2, 3, -1, -2, -128}},
			{Kind: api.Inner, H: 1, W: 1, C: 1},
			{Kind: api.Inner, H: 2, W: 3, C: 1, Zero: 5},
			{Kind: api.Inner, H: 4, W: 8, C: 1, Zero: 5},
			{Kind: api.Inner, H: 1, W: 1, C: 1, Zero: 5},
		},
		Ops: []Op{
			{Kind: api.Conv, A: 0, Weights: 1, Biases: 2, To: 3, Stride: 1, Scales: []Scale{{1 << 30, -2}}, Lo: -128, Hi: 127},
			{Kind: api.Depth, A: 0, Weights: 1, Biases: 2, To: 4, Stride: 1, Same: true, Scales: []Scale{{1<<31 - 1, 30}}, Lo: -1},
			{Kind: api.Dense, A: 0, Weights: 5, Biases: 2, To: 6, Scales: []Scale{{0x41020304, -31}}, Lo: 1, Hi: 2},
			{Kind: api.Add, A: 3, B: 4, To: 7, Scales: []Scale{{1<<30 + 1, 1}, {1<<30 + 2, 2}, {1<<30 + 3, 3}}, Lo: -16, Hi: 15},
			{Kind: api.Pad, A: 7, To: 8, Above: 2, Below: 0, Left: 1, Right: 4},
			{Kind: api.MaxPool, A: 7, To: 9, Size: 2, Stride: 2, Lo: -5, Hi: 5},
		},
		Outs: []int{0, 7, 5},
	}
	m, e := Read(s)
	if e != api.OK {
		t.Fatalf("Read: %d", e)
	}
	if !reflect.DeepEqual(m, want) {
		t.Errorf("Read:\n%+v\nwant:\n%+v", m, want)
	}
}

func TestTensorThatThereIsNot(t *testing.T) {
	m := &Model{Tensors: []Tensor{{H: 1, W: 1, C: 1}}}
	for _, n := range []int{-1, 1, 255} {
		x := m.Tensor(n)
		if x.Cells() != 0 {
			t.Errorf("Tensor(%d) has cells", n)
		}
	}
}
