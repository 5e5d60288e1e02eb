// Package layout: where buffers lie in one row of cells: promise P12 of the document.
package layout

import "netplan/api"

// Life is how many cells a buffer has, and from when to when it lives, both of these among it.
type Life struct {
	From, To int
	Cells    int
}

// Lay answers where buffers lie, those that live at one time apart from each other.
// Each lies as low as it can, the largest first: the small ones find room in the gaps. It lies at the end of another at the highest, so that all need no more room than one behind the other.
func Lay(lives []Life) []api.Buffer {
	laid := make([]api.Buffer, len(lives))
	for range lives {
		i := largest(lives, laid)
		if i < 0 || i >= len(laid) {
			return laid
		}
		at := lowest(lives, laid, lives[i])
		laid[i] = api.Buffer{At: at, Cells: lives[i].Cells}
	}
	return laid
}

// End is where the last of the buffers ends.
func End(list []api.Buffer) int {
	end := 0
	for _, b := range list {
		if end < b.At+b.Cells {
			end = b.At + b.Cells
		}
	}
	return end
}

// largest is the largest one that is not laid (it has no cells yet), of several the first; -1: there is none.
func largest(lives []Life, laid []api.Buffer) int {
	best := -1
	most := 0
	for i := 0; i < len(lives) && i < len(laid); i++ {
		if laid[i].Cells == 0 && lives[i].Cells > most {
			best = i
			most = lives[i].Cells
		}
	}
	return best
}

// lowest is the lowest place for a buffer. It is the beginning, or the end of another.
func lowest(lives []Life, laid []api.Buffer, l Life) int {
	if isFree(lives, laid, l, 0) {
		return 0
	}
	best := End(laid)
	for _, b := range laid {
		end := b.At + b.Cells
		if end < best && isFree(lives, laid, l, end) {
			best = end
		}
	}
	return best
}

// isFree tells whether a buffer at a place overlaps none that lives at one time with it. One that is not laid has no cells to overlap.
func isFree(lives []Life, laid []api.Buffer, l Life, at int) bool {
	for i := 0; i < len(lives) && i < len(laid); i++ {
		end := laid[i].At + laid[i].Cells
		if meet(lives[i], l) && at < end && laid[i].At < at+l.Cells {
			return false
		}
	}
	return true
}

func meet(a Life, b Life) bool {
	return a.From <= b.To && b.From <= a.To
}
