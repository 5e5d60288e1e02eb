package ops

import (
	"reflect"
	"testing"

	"netplan/api"
	"netplan/model"
)

// small: a model of one operator of a kind, whatever promises it breaks.
func small(kind int) *model.Model {
	t := model.Tensor{Kind: api.Inner, H: 2, W: 2, C: 1, Zero: 3}
	o := model.Op{Kind: kind, To: 1, Hi: 9, Stride: 1, Size: 1}
	return &model.Model{Tensors: []model.Tensor{t, t}, Ops: []model.Op{o}}
}

// Cells that are not there count as the zero: Make is no place where a wrong list can be found, nor one that may fail of it.
func TestP1MakeOfShortLists(t *testing.T) {
	for kind := -1; kind < 13; kind++ {
		m := small(kind)
		for _, list := range [][]int{nil, {}, {5}, {5, 6, 7}, {5, 6, 7, 8, 9}} {
			made := Make(m, m.Ops[0], list, list)
			if len(made) != 4 {
				t.Errorf("kind %d of %v: %v", kind, list, made)
			}
		}
	}
	m := small(api.Reshape)
	made := Make(m, m.Ops[0], []int{5, 6}, nil)
	if !reflect.DeepEqual(made, []int{5, 6, 3, 3}) {
		t.Errorf("Reshape of two cells: %v", made)
	}
}

func TestP8MakeIsFresh(t *testing.T) {
	m := small(api.Reshape)
	list := []int{5, 6, 7, 8, 99}[:4]
	made := Make(m, m.Ops[0], list, nil)
	made[0] = 1
	made = append(made, 2)
	if !reflect.DeepEqual(list[:5], []int{5, 6, 7, 8, 99}) {
		t.Errorf("what was read became %v", list[:5])
	}
}

func TestP8Roundings(t *testing.T) {
	for _, c := range []struct{ x, n, want int64 }{{7, 4, 2}, {-7, 4, -2}, {2, 4, 1}, {-2, 4, -1}, {1, 4, 0}, {-1, 4, 0}, {4, 9, 0}, {5, 9, 1}, {-5, 9, -1}, {0, 5, 0}, {6, 1, 6}, {6, 0, 6}, {6, -2, 6}} {
		v := nearest(c.x, c.n)
		if v != c.want {
			t.Errorf("%d by %d: %d, want %d", c.x, c.n, v, c.want)
		}
	}
	for _, c := range []struct{ x, want int64 }{{1<<31 - 1, 1<<31 - 1}, {1 << 31, 1<<31 - 1}, {-1 << 31, -1 << 31}, {-1<<31 - 1, -1 << 31}, {1 << 62, 1<<31 - 1}, {-1 << 62, -1 << 31}, {0, 0}} {
		v := held(c.x)
		if v != c.want {
			t.Errorf("HELD(%d) = %d, want %d", c.x, v, c.want)
		}
	}
	for _, c := range []struct {
		x           int64
		mult, shift int
		want        int64
	}{
		{1 << 30, 1 << 30, 2, 1 << 30}, {-1 << 30, 1 << 30, 2, -1 << 30}, {1<<31 - 1, 1<<31 - 1, 30, 1<<31 - 2}, {-1 << 31, 1<<31 - 1, 30, 1 - 1<<31},
		{1<<31 - 1, 1 << 30, 0, 1 << 30}, {-1 << 31, 1 << 30, 0, -1 << 30}, {1<<31 - 1, 1<<31 - 1, -31, 1}, {-1 << 31, 1<<31 - 1, -31, -1},
	} {
		v := scaled(c.x, model.Scale{Mult: c.mult, Shift: c.shift})
		if v != c.want {
			t.Errorf("SCALED(%d, %d, %d) = %d, want %d", c.x, c.mult, c.shift, v, c.want)
		}
	}
}
