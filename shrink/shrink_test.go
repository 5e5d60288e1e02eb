package shrink_test

import (
	"reflect"
	"testing"

	"netplan/api"
	"netplan/model"
	"netplan/shrink"
)

func cells(kind int, data ...int) model.Tensor {
	return model.Tensor{Kind: kind, H: 1, W: 1, C: 2, Data: data}
}

func clamp(from, to, lo, hi int) model.Op {
	return model.Op{Kind: api.Clamp, A: from, To: to, Lo: lo, Hi: hi}
}

func TestP11Fold(t *testing.T) {
	m := &model.Model{Tensors: []model.Tensor{cells(api.Const, 5, -9), cells(api.Inner), cells(api.Inner), cells(api.Input)}, Outs: []int{2, 3}}
	m.Ops = []model.Op{clamp(0, 1, -3, 4), clamp(1, 2, 0, 9)}
	shrink.Shrink(m)
	want := []model.Tensor{cells(api.Const), cells(api.Const), cells(api.Const, 4, 0), cells(api.Input)}
	if len(m.Ops) != 0 || !reflect.DeepEqual(m.Tensors, want) || !reflect.DeepEqual(m.Outs, []int{2, 3}) {
		t.Errorf("of constants: %+v", m)
	}
}

func TestP11Join(t *testing.T) {
	m := &model.Model{Tensors: []model.Tensor{cells(api.Input), cells(api.Inner), cells(api.Inner), cells(api.Inner)}, Outs: []int{3, 3}}
	m.Ops = []model.Op{clamp(0, 1, -3, 3), clamp(1, 2, 0, 9), clamp(2, 3, -128, 2)}
	shrink.Shrink(m)
	if want := []model.Op{clamp(0, 3, 0, 2)}; !reflect.DeepEqual(m.Ops, want) {
		t.Errorf("three Clamps: %+v", m.Ops)
	}
}

// Constants that are of use stay: cells, weights and biases of steps, and outputs. The others are let go.
func TestP11Forget(t *testing.T) {
	m := &model.Model{Outs: []int{4, 5}}
	for i := 0; i < 4; i++ {
		m.Tensors = append(m.Tensors, cells(api.Const, 1, 2))
	}
	m.Tensors = append(m.Tensors, cells(api.Const, 3, 4), cells(api.Inner), cells(api.Inner), cells(api.Input), cells(api.Inner), cells(api.Const, 5, 6))
	m.Tensors[2].Kind = api.Biases
	m.Tensors[3].Kind = api.Biases
	m.Ops = []model.Op{
		{Kind: api.Depth, A: 7, Weights: 1, Biases: 2, To: 6, Stride: 1},
		{Kind: api.Depth, A: 7, Weights: 0, Biases: 3, To: 8, Stride: 1},
		{Kind: api.Add, A: 6, B: 9, To: 5},
	}
	shrink.Shrink(m)
	if len(m.Ops) != 2 {
		t.Fatalf("%+v", m.Ops)
	}
	for n, kept := range []bool{false, true, true, false, true, false, false, false, false, true} {
		if (m.Tensors[n].Data != nil) != kept {
			t.Errorf("tensor %d: %+v", n, m.Tensors[n])
		}
	}
}
