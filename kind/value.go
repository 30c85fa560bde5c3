package kind

import (
	"abacus/api"
	"abacus/exact"
	"abacus/shape"
	"abacus/wide"
)

// one is 1 as a Nat.
const one api.Nat = "\x01"

// Value is b's exact value; a zero has neither Sig nor Exp, and so comes out as 0 by itself.
func Value(f api.Form, b api.Bits) (api.Exact, api.Errno) {
	p, e := Unpack(f, b)
	switch {
	case e != api.OK:
		return api.Exact{}, e
	case !finite(p.Class):
		return api.Exact{}, api.ErrNumber
	}
	return exact.Make(signOf(f, b), natOf(p.Sig), one, p.Exp)
}

func finite(c api.Class) bool { return c > api.NegInf && c < api.PosInf }

// Of is the encoding whose value x is: x must be within reach, and on the format's grid.
func Of(f api.Form, x api.Exact) (b api.Bits, is bool, e api.Errno) {
	if shape.Check(f) != api.OK || exact.Check(x) != api.OK {
		return api.Bits{}, false, api.ErrArg
	}
	if exact.Sign(x) == 0 {
		return shape.Zero(f, false), true, api.OK
	}
	top, _ := exact.Top(x)
	if top > shape.Emax(f) {
		return api.Bits{}, false, api.OK
	}
	exp := max(top, shape.Emin(f)) - shape.Precision(f) + 1
	sig, whole, _ := exact.Floor(x, exp) // of at most Precision bits, by what Top says: so never too long
	if !whole {
		return api.Bits{}, false, api.OK
	}
	return signed(f, finiteBits(f, wideOf(sig), exp), x.Neg), true, api.OK
}

// natOf is w's bytes, the highest first.
func natOf(w api.Wide) api.Nat {
	bytes := make([]byte, (wide.Len(w)+7)/8)
	for i := range bytes {
		bytes[len(bytes)-1-i] = byte(w[i/8] >> (i % 8 * 8))
	}
	return api.Nat(bytes)
}

// wideOf is the number whose bytes n has, at most 48 of them.
func wideOf(n api.Nat) api.Wide {
	var w api.Wide
	for i := range len(n) {
		w[i/8] |= uint64(n[len(n)-1-i]) << (i % 8 * 8)
	}
	return w
}
