// Package wide is layer 1: see shared/doc/01-wide.md.
package wide

import (
	"cmp"
	"math/bits"

	"spigot/api"
)

func Of(x uint64) api.Wide { return api.Wide{Lo: x} }

func Small(a api.Wide) (uint64, api.Errno) {
	if a.Hi != 0 {
		return 0, api.ErrRange
	}
	return a.Lo, api.OK
}

func Cmp(a, b api.Wide) int {
	return cmp.Or(cmp.Compare(a.Hi, b.Hi), cmp.Compare(a.Lo, b.Lo))
}

func Add(a, b api.Wide) (api.Wide, api.Errno) {
	lo, carry := bits.Add64(a.Lo, b.Lo, 0)
	hi, over := bits.Add64(a.Hi, b.Hi, carry)
	if over != 0 {
		return api.Wide{}, api.ErrRange
	}
	return api.Wide{Hi: hi, Lo: lo}, api.OK
}

func Sub(a, b api.Wide) (api.Wide, api.Errno) {
	lo, borrow := bits.Sub64(a.Lo, b.Lo, 0)
	hi, under := bits.Sub64(a.Hi, b.Hi, borrow)
	if under != 0 {
		return api.Wide{}, api.ErrRange
	}
	return api.Wide{Hi: hi, Lo: lo}, api.OK
}

func Mul(x, y uint64) api.Wide {
	hi, lo := bits.Mul64(x, y)
	return api.Wide{Hi: hi, Lo: lo}
}

func Div(a api.Wide, d uint64) (api.Wide, uint64, api.Errno) {
	if d == 0 {
		return api.Wide{}, 0, api.ErrZero
	}
	// bits.Div64 panics unless the high part is less than d: a rest by d is.
	lo, rest := bits.Div64(a.Hi%d, a.Lo, d)
	return api.Wide{Hi: a.Hi / d, Lo: lo}, rest, api.OK
}

func Up(a api.Wide, d uint64) (api.Wide, api.Errno) {
	q, rest, e := Div(a, d)
	if e != api.OK || rest == 0 {
		return q, e
	}
	// A rest means that d is at least 2, so the quotient has room for 1 more.
	return Add(q, Of(1))
}
