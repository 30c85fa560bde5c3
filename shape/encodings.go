package shape

import "abacus/api"

// NaN is f's canonical NaN.
func NaN(f api.Form) api.Bits { return pack(f, false, topField(f), raised(1, fractionBits(f)-1)) }

// Inf is f's infinity.
func Inf(f api.Form, neg bool) api.Bits { return pack(f, neg, topField(f), api.Bits{}) }

// Zero is f's 0.
func Zero(f api.Form, neg bool) api.Bits { return pack(f, neg, 0, api.Bits{}) }

// Greatest is f's finite number of the greatest magnitude.
func Greatest(f api.Form, neg bool) api.Bits {
	return pack(f, neg, topField(f)-1, ones(fractionBits(f)))
}

// LeastNormal is 2^emin.
func LeastNormal(f api.Form, neg bool) api.Bits { return pack(f, neg, 1, api.Bits{}) }

// Least is f's subnormal number of the least magnitude.
func Least(f api.Form, neg bool) api.Bits { return pack(f, neg, 0, api.Bits{Lo: 1}) }

// One is 1: its exponent is 0, which is written as emax.
func One(f api.Form, neg bool) api.Bits { return pack(f, neg, uint64(Emax(f)), api.Bits{}) }

// pack puts an encoding together: the sign, the exponent field and the fraction. Of no format it is the zero Bits, whatever is handed in beside it.
func pack(f api.Form, neg bool, field uint64, fraction api.Bits) api.Bits {
	if Check(f) != api.OK {
		return api.Bits{}
	}
	b := join(raised(field, fractionBits(f)), fraction)
	if neg {
		b = join(b, raised(1, uint(Width(f)-1)))
	}
	return b
}

// topField is f's exponent field, all ones.
func topField(f api.Form) uint64 { return 1<<uint(Width(f)-Precision(f)) - 1 }

// fractionBits is how many bits the fraction has: of a significand all but the highest one.
func fractionBits(f api.Form) uint { return uint(Precision(f) - 1) }

// join has the bits of both.
func join(a, b api.Bits) api.Bits { return api.Bits{Hi: a.Hi | b.Hi, Lo: a.Lo | b.Lo} }

// raised is x times 2^n, of which the bits from 128 on are lost. A count that would be below 0 wraps to a huge one, by which a shift leaves nothing: so no case needs to be told apart.
func raised(x uint64, n uint) api.Bits {
	return api.Bits{Hi: x<<(n-64) | x>>(64-n), Lo: x << n}
}

// ones is 2^n - 1: n ones, at most 128.
func ones(n uint) api.Bits {
	b := raised(1, n)
	if b.Lo == 0 {
		b.Hi--
	}
	b.Lo--
	return b
}
