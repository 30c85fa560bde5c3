package round

import (
	"abacus/api"
	"abacus/jam"
	"abacus/shape"
	"abacus/wide"
)

const wordSize = 64

// jammed has More in its lowest bit. That bit is below the one that tells halves, so the number stays between the same two halves of a step, and is on none of them.
func jammed(x api.Rough) api.Rough {
	if x.More {
		x.Sig[0] |= 1
		x.More = false
	}
	return x
}

// top is the place of the highest bit; of 0 it is one below the lowest place.
func top(x api.Rough) int { return x.Exp + wide.Len(x.Sig) - 1 }

// stepAt is the place of the lowest bit of a significand whose highest one is at the place high.
func stepAt(f api.Form, high int) int { return high - shape.Precision(f) + 1 }

// onGrid is x rounded to the multiples of 2^step, with that for its Exp. Of both shifts just one has a count above 0, and so moves.
func onGrid(m api.Mode, x api.Rough, step int) (r api.Rough, exact bool) {
	raised, _ := wide.Left(x.Sig, x.Exp-step)
	kept, half, exact := jam.Cut(raised, step-x.Exp)
	if Up(m, x.Neg, wide.Bit(kept, 0), half, exact) {
		kept, _ = wide.Add(kept, wide.Of(1))
	}
	return api.Rough{Neg: x.Neg, Sig: kept, Exp: step}, exact
}

// tiny tells whether x, rounded as though there were no least exponent, stays below the least normal number.
func tiny(f api.Form, m api.Mode, x api.Rough) bool {
	r, _ := onGrid(m, x, stepAt(f, top(x)))
	return top(r) < shape.Emin(f)
}

// encoding is the encoding of what is on its grid and does not overflow. The highest bit of a normal significand is not written, but makes the exponent field one more, as a significand of 2^p makes it two more: so the field that is put in counts from the least step, and no case is told apart.
func encoding(f api.Form, r api.Rough) api.Bits {
	fraction := shape.Precision(f) - 1
	field := uint64(r.Exp - stepAt(f, shape.Emin(f)))
	r.Sig[fraction/wordSize] += field << (fraction % wordSize)
	sign := shape.Zero(f, r.Neg)
	b, _ := wide.ToBits(wide.Or(r.Sig, wide.OfBits(sign)))
	return b
}
