package kind

import (
	"abacus/api"
	"abacus/shape"
)

// fractionWidth is how many bits the fraction has: of a significand all but the highest one.
func fractionWidth(f api.Form) uint { return uint(shape.Precision(f) - 1) }

// signOf is b's sign bit.
func signOf(f api.Form, b api.Bits) bool { return bitAt(b, uint(shape.Width(f)-1)) }

// signed is b, its sign bit turned if neg. The zero below 0 has that bit alone.
func signed(f api.Form, b api.Bits, neg bool) api.Bits {
	if !neg {
		return b
	}
	sign := shape.Zero(f, true)
	return api.Bits{Hi: b.Hi ^ sign.Hi, Lo: b.Lo ^ sign.Lo}
}

// fieldOf is b's exponent field.
func fieldOf(f api.Form, b api.Bits) uint64 {
	width := shape.Width(f) - shape.Precision(f)
	return from(b, fractionWidth(f)) & (1<<width - 1)
}

// fractionOf is b's fraction, of all fields the one that may lie in both words.
func fractionOf(f api.Form, b api.Bits) api.Bits {
	n := fractionWidth(f)
	return api.Bits{Hi: b.Hi & (1<<(max(n, 64)-64) - 1), Lo: b.Lo & (1<<n - 1)}
}

func bitAt(b api.Bits, place uint) bool { return from(b, place)&1 == 1 }

// from is what lies from a place on, in one of both words. A count that would be below 0 wraps to a huge one, by which a shift leaves nothing: so no case needs to be told apart, here and in placed.
func from(b api.Bits, place uint) uint64 { return b.Lo>>place | b.Hi>>(place-64) }

// placed is x at a place, in one of both words.
func placed(x uint64, place uint) api.Bits { return api.Bits{Hi: x << (place - 64), Lo: x << place} }

// plus is the sum; the lower word is less than what it came from just if it wrapped.
func plus(a, b api.Bits) api.Bits {
	sum := api.Bits{Hi: a.Hi + b.Hi, Lo: a.Lo + b.Lo}
	if sum.Lo < a.Lo {
		sum.Hi++
	}
	return sum
}

// minusOne is b less 1, by the sum with all ones, which wraps.
func minusOne(b api.Bits) api.Bits {
	return plus(b, api.Bits{Hi: 1<<64 - 1, Lo: 1<<64 - 1})
}
