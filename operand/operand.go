// Package operand is what the layers that calculate have in common: what may be handed in to them, what an operand is, and what they answer where nothing is calculated. It keeps to what all of these layers may call.
package operand

import (
	"abacus/api"
	"abacus/kind"
	"abacus/round"
)

// Enough is how many bits a result must have for all formats, if something is left of it: the longest precision's, 113, and two.
const Enough = 115

// MayBe tells whether f is a format, m a mode, and all of l are encodings. A zero is rounded to itself: so that fails by the format or the mode alone.
func MayBe(f api.Form, m api.Mode, l ...api.Bits) bool {
	if _, _, e := round.Pack(f, m, api.Rough{}); e != api.OK {
		return false
	}
	for _, b := range l {
		if _, e := kind.Class(f, b); e != api.OK {
			return false
		}
	}
	return true
}

// Endless tells whether it is the class of an infinity.
func Endless(c api.Class) bool { return c == api.NegInf || c == api.PosInf }

// Naught tells whether it is the class of a zero.
func Naught(c api.Class) bool { return c == api.NegZero || c == api.PosZero }

// Plain is the class that stands for all those that differ in the sign or in being subnormal alone: PosInf, PosZero or PosNormal; of a NaN its own.
func Plain(c api.Class) api.Class {
	switch {
	case Endless(c):
		return api.PosInf
	case Naught(c):
		return api.PosZero
	case c == api.Signaling || c == api.Quiet:
		return c
	}
	return api.PosNormal
}

// Inf is the infinity of a sign: what is beyond a format's numbers by a mode that goes to the nearer one.
func Inf(f api.Form, neg bool) api.Bits {
	b, _, _ := round.Over(f, api.NearEven, neg)
	return b
}

// NaN is the canonical NaN: the least NaN above the infinity, made quiet, without the lowest bit that made it one.
func NaN(f api.Form) api.Bits {
	b := Inf(f, false)
	b.Lo |= 1
	b = kind.Quiet(f, b)
	b.Lo &^= 1
	return b
}
