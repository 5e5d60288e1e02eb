package ops

import "netplan/model"

// grid is a tensor with its cells, wherever these come from.
type grid struct {
	h, w, c int
	zero    int
	cells   []int
}

func lay(t model.Tensor, cells []int) grid {
	return grid{h: t.H, w: t.W, c: t.C, zero: t.Zero, cells: cells}
}

// at is the cell at a row, place and channel. Outside it is the zero, the cell that stands for nothing: so what lies outside of a tensor counts for nothing in a sum, and is what a Pad lays around.
func (g *grid) at(y int, x int, k int) int {
	if y < 0 || y >= g.h || x < 0 || x >= g.w || k < 0 || k >= g.c {
		return g.zero
	}
	return g.nth((y*g.w+x)*g.c + k)
}

// nth is the cell of a number.
func (g *grid) nth(i int) int {
	if i < 0 || i >= len(g.cells) {
		return g.zero
	}
	return g.cells[i]
}
