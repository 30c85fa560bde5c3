package rule

import (
	"abacus/api"
	"abacus/exact"
	"abacus/kind"
	"abacus/nat"
	"abacus/shape"
)

const one api.Nat = "\x01"

// left is what lies between a magnitude and the grid below it: whether that is half a step at least, and whether there is anything beside that half.
type left struct{ half, more bool }

// rounded is a magnitude on a grid, in steps of 2^step, and what was left of the number ahead of that.
type rounded struct {
	steps api.Nat
	step  place
	left  left
}

// top is the place of its highest bit; of 0 one that is below each of the grid.
func (r rounded) top() place { return r.step + place(nat.Len(r.steps)) - 1 }

// round rounds a number to the multiples of 2^step.
func round(m api.Mode, n number, step place) rounded {
	halves, lost, _ := nat.Right(n.whole, int(step-1-n.last))
	steps, half, _ := nat.Right(halves, 1)
	r := rounded{steps, step, left{half, lost || n.more}}
	if _, odd, _ := nat.Right(steps, 1); goesOn(m, n.neg, odd, r.left) {
		r.steps, _ = nat.Add(steps, one)
	}
	return r
}

// goesOn tells whether a magnitude goes on to the next step, by what is left and by whether the steps below it are odd.
func goesOn(m api.Mode, neg, odd bool, rest left) bool {
	switch m {
	case api.NearEven, api.NearAway:
		if rest == (left{half: true}) {
			return odd || m == api.NearAway
		}
		return rest.half
	case api.Down, api.Up:
		return rest != left{} && neg == (m == api.Down)
	}
	return false
}

// delivered is what a format's rounding delivers of a number, and its flags.
func delivered(f api.Form, m api.Mode, n number) (api.Bits, api.Flags) {
	r := round(m, n, stepAt(f, max(n.top, place(shape.Emin(f)))))
	switch {
	case r.top() > place(shape.Emax(f)):
		return beyond(f, m, n.neg), api.Overflow | api.Inexact
	case r.left == left{}:
		return encoded(f, n.neg, r), 0
	case tiny(f, m, n):
		return encoded(f, n.neg, r), api.Underflow | api.Inexact
	}
	return encoded(f, n.neg, r), api.Inexact
}

// beyond is what is delivered of what overflows: the infinity by just those modes that go on when nearly a whole step is left.
func beyond(f api.Form, m api.Mode, neg bool) api.Bits {
	if goesOn(m, neg, false, left{half: true, more: true}) {
		return shape.Inf(f, neg)
	}
	return shape.Greatest(f, neg)
}

// encoded is the encoding of what does not overflow. The sign comes last, so that a zero has it too.
func encoded(f api.Form, neg bool, r rounded) api.Bits {
	x, _ := exact.Make(false, r.steps, one, int(r.step))
	b, _, _ := kind.Of(f, x)
	if neg {
		return kind.Flip(f, b)
	}
	return b
}

// tiny tells whether a number, rounded as though there were no least exponent, stays below the least normal one.
func tiny(f api.Form, m api.Mode, n number) bool {
	return round(m, n, stepAt(f, n.top)).top() < place(shape.Emin(f))
}
