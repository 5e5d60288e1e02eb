package ops

import "netplan/model"

const (
	least    = -1 << 31
	greatest = 1<<31 - 1
)

// held is HELD of P8. Numbers have 64 bits here, for products have up to 63 of them, whatever an int has.
func held(x int64) int64 {
	return within(x, least, greatest)
}

func within(x int64, lo int64, hi int64) int64 {
	if x < lo {
		return lo
	}
	if x > hi {
		return hi
	}
	return x
}

// scaled is SCALED of P8, of an x that is held.
func scaled(x int64, c model.Scale) int64 {
	if c.Shift > 0 {
		x = held(x << uint(c.Shift))
	}
	// A shift to the right cuts downwards, so that with a half added the greater of two is taken.
	h := held((x*int64(c.Mult) + 1<<30) >> 31)
	if c.Shift < 0 {
		h = nearest(h, 1<<uint(-c.Shift))
	}
	return h
}

// nearest is x divided by n, of two the greater in amount; x itself, if n is no number to divide by.
func nearest(x int64, n int64) int64 {
	if n < 1 {
		return x
	}
	if x < 0 {
		return -((-x + n/2) / n)
	}
	return (x + n/2) / n
}
