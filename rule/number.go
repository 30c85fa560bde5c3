package rule

import (
	"abacus/api"
	"abacus/exact"
	"abacus/nat"
	"abacus/shape"
)

// place is the place of a bit, which stands for 2 to that power; it is no count of bits, and becomes one just where a power of two is asked for.
type place int

// number is a number as far as rounding needs to know it: whole is how often its magnitude has 2^last; more is whether anything is left of it then.
type number struct {
	neg       bool
	top, last place
	whole     api.Nat
	more      bool
}

// known finds out of a number what rounding to a format needs: the bits of its significand, and one more, by which halves are told.
func known(f api.Form, neg bool, top place, floor func(place) (api.Nat, bool)) number {
	last := stepAt(f, top) - 1
	whole, all := floor(last)
	return number{neg, top, last, whole, !all}
}

// stepAt is the place of the lowest bit of a significand whose highest one is at top.
func stepAt(f api.Form, top place) place { return top - place(shape.Precision(f)) + 1 }

func ofExact(f api.Form, x api.Exact) number {
	return known(f, x.Neg, topOf(x), ratio(x).floor)
}

// ofRoot is the root of x: its highest bit stands at half the place, rounded down below 0 too.
func ofRoot(f api.Form, x api.Exact) number {
	return known(f, false, topOf(x)>>1, root(x).floor)
}

// topOf is the place of the highest bit. 0 has none, and Top answers 0 beside its error: as good as each other place, for 0 is on every grid, and comes out as 0 without flags.
func topOf(x api.Exact) place {
	top, _ := exact.Top(x)
	return place(top)
}

// ratio is a number that is itself what is to be rounded; root is one whose square root is that.
type (
	ratio api.Exact
	root  api.Exact
)

// floor is the whole part of the magnitude by 2^at, and whether that is all of it. At the places that known asks for Num is moved to no more bits than Den's and some hundreds, which is far from too long.
func (r ratio) floor(at place) (api.Nat, bool) {
	whole, all, _ := exact.Floor(api.Exact(r), int(at))
	return whole, all
}

// floor is likewise of the root: what the square has below 4^at lifts no root to the next whole number.
func (r root) floor(at place) (api.Nat, bool) {
	square, all := ratio(r).floor(2 * at)
	whole, rest, _ := nat.Sqrt(square)
	return whole, all && rest == ""
}
