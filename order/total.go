package order

import (
	"cmp"
	"slices"

	"abacus/api"
	"abacus/kind"
	"abacus/shape"
)

// Total is where a stands to b in the order of all encodings.
func Total(f api.Form, a, b api.Bits) (int, api.Errno) {
	if !mayBe(f, a, b) {
		return 0, api.ErrArg
	}
	return total(f, a, b), api.OK
}

// Sort is all of l, rising in the order of all encodings. Those that stand nowhere ahead of one another are the same bits: so no sort could be told from another.
func Sort(f api.Form, l ...api.Bits) ([]api.Bits, api.Errno) {
	if !mayBe(f, l...) {
		return nil, api.ErrArg
	}
	sorted := make([]api.Bits, len(l))
	copy(sorted, l)
	slices.SortFunc(sorted, func(a, b api.Bits) int { return total(f, a, b) })
	return sorted, api.OK
}

// total is Total of what may be.
func total(f api.Form, a, b api.Bits) int {
	x, y := rank(f, a), rank(f, b)
	return cmp.Or(cmp.Compare(x.Hi, y.Hi), cmp.Compare(x.Lo, y.Lo))
}

// rank is a number that rises in the order of all encodings: with the sign 1 all bits are turned, so that the greater ones come first; else the sign alone, so that these come behind.
func rank(f api.Form, b api.Bits) api.Bits {
	turn := shape.Zero(f, true)
	if kind.Sign(f, b) {
		turn = ones(f)
	}
	return api.Bits{Hi: b.Hi ^ turn.Hi, Lo: b.Lo ^ turn.Lo}
}

// ones is all the bits that an encoding of f has. A shift by 64 or more leaves nothing, and less 1 that is all ones.
func ones(f api.Form) api.Bits {
	width := shape.Width(f)
	return api.Bits{Hi: 1<<(max(width, 64)-64) - 1, Lo: 1<<width - 1}
}
