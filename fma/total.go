package fma

import (
	"abacus/api"
	"abacus/jam"
	"abacus/wide"
)

// room is how many bits are kept of two numbers, from the higher one's highest on: a Wide's, but for one into which their sum may carry.
const room = 383

// times is the product of two finite numbers as it is: two significands have at most 226 bits.
func times(neg bool, x, y api.Parts) api.Rough {
	sig, _ := wide.Mul(x.Sig, y.Sig)
	return api.Rough{Neg: neg, Sig: sig, Exp: x.Exp + y.Exp}
}

// total is the sum of two finite numbers of at most 226 bits, or one with the same neighbours and halves. Where one of them reaches below what is kept, its highest bit is 157 places at least below the other one's: then that one's bits do not reach down to the lowest one, and no format's precision does.
func total(m api.Mode, x, y api.Rough) api.Rough {
	low := lowest(x, y)
	a, b := from(x, low), from(y, low)
	r := api.Rough{Neg: x.Neg, Exp: low}
	switch order := wide.Cmp(a, b); {
	case x.Neg == y.Neg:
		r.Sig, _ = wide.Add(a, b)
	case order > 0:
		r.Sig, _ = wide.Sub(a, b)
	case order < 0:
		r.Neg = y.Neg
		r.Sig, _ = wide.Sub(b, a)
	default:
		r.Neg = m == api.Down
	}
	return r
}

// lowest is the place of the lowest bit that is kept of two numbers. A zero, whose exponent says nothing, has no say in it.
func lowest(x, y api.Rough) int {
	if x.Sig == (api.Wide{}) {
		return top(y) - room
	}
	if y.Sig == (api.Wide{}) {
		return top(x) - room
	}
	return max(top(x), top(y)) - room
}

// top is the place right above a number's highest bit.
func top(x api.Rough) int { return x.Exp + wide.Len(x.Sig) }

// from is x in steps of 2^low, with one bit more for what is below them. Of both shifts one at most has a count above 0.
func from(x api.Rough, low int) api.Wide {
	up, _ := wide.Left(x.Sig, x.Exp-low)
	return jam.Right(up, low-x.Exp)
}
