package layout_test

import (
	"math/rand"
	"reflect"
	"testing"

	"netplan/api"
	"netplan/layout"
)

// lives: from, to and cells of each.
func lives(list ...int) []layout.Life {
	var out []layout.Life
	for ; len(list) > 2; list = list[3:] {
		out = append(out, layout.Life{From: list[0], To: list[1], Cells: list[2]})
	}
	return out
}

// apart: do buffers that live at one time lie apart, and is each as large as it must be?
func apart(lives []layout.Life, laid []api.Buffer) bool {
	for i, b := range laid {
		if b.At < 0 || b.Cells != lives[i].Cells {
			return false
		}
		for k, c := range laid[:i] {
			never := lives[i].To < lives[k].From || lives[k].To < lives[i].From
			if !never && b.At < c.At+c.Cells && c.At < b.At+b.Cells {
				return false
			}
		}
	}
	return true
}

func drawn(r *rand.Rand) []layout.Life {
	lives := make([]layout.Life, r.Intn(24))
	for i := range lives {
		from := r.Intn(17)
		lives[i] = layout.Life{From: from, To: from + r.Intn(18-from), Cells: 1 + r.Intn(1+r.Intn(60))}
	}
	return lives
}

func TestP12Drawn(t *testing.T) {
	for seed := int64(0); seed < 3000; seed++ {
		lives := drawn(rand.New(rand.NewSource(seed)))
		was := append([]layout.Life{}, lives...)
		laid := layout.Lay(lives)
		if len(laid) != len(lives) || !apart(lives, laid) {
			t.Fatalf("draw %d: %v lie at %v", seed, lives, laid)
		}
		sum, end := 0, 0
		for i, b := range laid {
			sum += lives[i].Cells
			end = max(end, b.At+b.Cells)
		}
		if layout.End(laid) != end || end > sum {
			t.Fatalf("draw %d: End = %d, want %d, at most %d", seed, layout.End(laid), end, sum)
		}
		if len(lives) > 0 && !reflect.DeepEqual(lives, was) {
			t.Fatalf("draw %d: the lives are changed", seed)
		}
	}
}

func TestP12Laid(t *testing.T) {
	for what, c := range map[string]struct {
		lives []layout.Life
		at    []int
	}{
		"none":                       {nil, nil},
		"one":                        {lives(0, 0, 5), []int{0}},
		"two at one time":            {lives(0, 3, 5, 1, 2, 5), []int{0, 5}},
		"the last time is the first": {lives(0, 1, 5, 1, 2, 5), []int{0, 5}},
		"one behind the other":       {lives(0, 1, 5, 2, 3, 5), []int{0, 0}},
		"the other way round":        {lives(2, 3, 5, 0, 1, 5), []int{0, 0}},
		"a gap that is just enough":  {lives(0, 9, 9, 1, 1, 4, 1, 9, 4, 2, 2, 4), []int{0, 9, 13, 9}},
		"a gap that is too small":    {lives(0, 9, 9, 1, 1, 8, 1, 9, 7, 2, 9, 6, 3, 3, 5, 3, 3, 2), []int{0, 9, 17, 9, 24, 15}},
		"a small one ahead":          {lives(0, 0, 1, 0, 1, 5, 1, 2, 5), []int{5, 0, 5}},
	} {
		var at []int
		for _, b := range layout.Lay(c.lives) {
			at = append(at, b.At)
		}
		if !reflect.DeepEqual(at, c.at) {
			t.Errorf("%s: %v lie at %v, want %v", what, c.lives, at, c.at)
		}
	}
}

// Lives that no plan has: Lay ends all the same.
func TestP1NoCells(t *testing.T) {
	for _, cells := range []int{0, -1, -1 << 31} {
		laid := layout.Lay(lives(0, 1, cells, 0, 1, 2, 1, 0, cells))
		if len(laid) != 3 || laid[1] != (api.Buffer{At: 0, Cells: 2}) || layout.End(laid) != 2 {
			t.Errorf("%d cells: %v", cells, laid)
		}
	}
}
