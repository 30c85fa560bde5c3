package fma

import (
	"math"
	"math/big"
	"slices"
	"strconv"
	"testing"

	"abacus/add"
	"abacus/api"
	"abacus/exact"
	"abacus/kind"
	"abacus/mul"
	"abacus/rule"
	"abacus/shape"
)

const (
	inexact   = api.Inexact
	overflow  = api.Overflow | api.Inexact
	underflow = api.Underflow | api.Inexact
)

// check holds the four of three encodings, with signs such that all of them are a times b plus c, by all modes and both ways round, against what the model says.
func (l layout) check(t *testing.T, a, b, c api.Bits) {
	t.Helper()
	turnedA, turnedC := l.turned(a), l.turned(c)
	for m, want := range l.wants(a, b, c) {
		m := api.Mode(m)
		if got := of(MulAdd(l.form, m, a, b, c)); got != want {
			t.Errorf("MulAdd(%d, %d, %x, %x, %x): %v; wanted %v", l.form, m, a, b, c, got, want)
		}
		if got := of(MulAdd(l.form, m, b, a, c)); got != want {
			t.Errorf("MulAdd(%d, %d, %x, %x, %x): %v; wanted %v", l.form, m, b, a, c, got, want)
		}
		if got := of(MulSub(l.form, m, a, b, turnedC)); got != want {
			t.Errorf("MulSub(%d, %d, %x, %x, %x): %v; wanted %v", l.form, m, a, b, turnedC, got, want)
		}
		if got := of(NegMulSub(l.form, m, turnedA, b, c)); got != want {
			t.Errorf("NegMulSub(%d, %d, %x, %x, %x): %v; wanted %v", l.form, m, turnedA, b, c, got, want)
		}
		if got := of(NegMulAdd(l.form, m, turnedA, b, turnedC)); got != want {
			t.Errorf("NegMulAdd(%d, %d, %x, %x, %x): %v; wanted %v", l.form, m, turnedA, b, turnedC, got, want)
		}
	}
}

// eachForm runs a test on each format, all at the same time as one another and as other tests.
func eachForm(t *testing.T, test func(t *testing.T, l layout)) {
	t.Parallel()
	for _, l := range layouts {
		t.Run(strconv.Itoa(l.w), func(t *testing.T) {
			t.Parallel()
			test(t, l)
		})
	}
}

func halves(list ...uint64) []api.Bits {
	var out []api.Bits
	for _, x := range list {
		out = append(out, api.Bits{Lo: x})
	}
	return out
}

func half(bits uint64, flags api.Flags) answer { return answer{b: api.Bits{Lo: bits}, flags: flags} }

// The chapter's examples, and the whole document's.
func TestExamples(t *testing.T) {
	for _, x := range []struct {
		m       api.Mode
		a, b, c uint64
		want    answer
	}{
		{api.NearEven, 0x4000, 0x4200, 0xbc00, half(0x4500, 0)},
		{api.NearEven, 0x7c00, 0x0000, 0x7e01, half(0x7e00, api.Invalid)},
		{api.NearEven, 0x7c00, 0x3c00, 0xfc00, half(0x7e00, api.Invalid)},
		{api.NearEven, 0x3c00, 0x3c00, 0x7d00, half(0x7e00, api.Invalid)},
		{api.Down, 0x3c00, 0x3c00, 0xbc00, half(0x8000, 0)},
		{api.NearEven, 0x3c01, 0x3c01, 0xbc02, half(0x0010, 0)},
	} {
		if got := of(MulAdd(api.Half, x.m, api.Bits{Lo: x.a}, api.Bits{Lo: x.b}, api.Bits{Lo: x.c})); got != x.want {
			t.Errorf("MulAdd(Half, %d, %x, %x, %x): %v; wanted %v", x.m, x.a, x.b, x.c, got, x.want)
		}
	}
	if got := of(NegMulAdd(api.Half, api.NearEven, api.Bits{Lo: 0x4000}, api.Bits{Lo: 0x4200}, api.Bits{Lo: 0x3c00})); got != half(0xc700, 0) {
		t.Errorf("NegMulAdd(Half, NearEven, 4000, 4200, 3c00): %v", got)
	}
	if got := of(Dot(api.Half, api.NearEven, halves(0x3c00, 0x4000), halves(0x4000, 0x4200))); got != half(0x4800, 0) {
		t.Errorf("Dot(Half, NearEven, (3c00, 4000), (4000, 4200)): %v", got)
	}
	if got := of(Dot(api.Half, api.NearEven, halves(0x3c00), nil)); got != nothing {
		t.Errorf("Dot(Half, NearEven, (3c00), ()): %v", got)
	}
}

// row is a call of Half by hand: what is delivered and raised by NearEven, ToZero, Down, Up, NearAway.
type row struct {
	a, b, c uint64
	want    [5]uint64
	flags   [5]api.Flags
}

func checkRows(t *testing.T, rows []row) {
	t.Helper()
	for _, x := range rows {
		for m, want := range x.want {
			if got := of(MulAdd(api.Half, api.Mode(m), api.Bits{Lo: x.a}, api.Bits{Lo: x.b}, api.Bits{Lo: x.c})); got != half(want, x.flags[m]) {
				t.Errorf("MulAdd(Half, %d, %x, %x, %x): %v; wanted %x, flags %d", m, x.a, x.b, x.c, got, want, x.flags[m])
			}
		}
	}
}

const nan = uint64(0x7e00)

// P15.1, by hand: what is no number, and that the case named first holds.
func TestNoNumbers(t *testing.T) {
	checkRows(t, []row{
		// An infinity times a zero, ahead of all, on either side and of all signs.
		{0x7c00, 0x0000, 0x3c00, all(nan), all(api.Invalid)},
		{0xfc00, 0x0000, 0x7e01, all(nan), all(api.Invalid)},
		{0x0000, 0x7c00, 0x7c00, all(nan), all(api.Invalid)},
		{0x8000, 0xfc00, 0xfc00, all(nan), all(api.Invalid)},
		{0x8000, 0x7c00, 0x7c01, all(nan), all(api.Invalid)},
		{0x7c00, 0x8000, 0xfe00, all(nan), all(api.Invalid)},
		{0x0000, 0xfc00, 0x0000, all(nan), all(api.Invalid)},
		// A quiet NaN, in each place; ahead of infinities that do not go together.
		{0x7e00, 0x3c00, 0x3c00, all(nan), all(api.Flags(0))},
		{0x3c00, 0xfe01, 0x3c00, all(nan), all(api.Flags(0))},
		{0x3c00, 0x3c00, 0x7fff, all(nan), all(api.Flags(0))},
		{0x0000, 0x8000, 0xffff, all(nan), all(api.Flags(0))},
		{0x7e00, 0x0000, 0x7c00, all(nan), all(api.Flags(0))},
		{0x7c00, 0x7e00, 0xfc00, all(nan), all(api.Flags(0))},
		{0x7c00, 0xbc00, 0x7e00, all(nan), all(api.Flags(0))},
		{0xfe00, 0x7e00, 0x7e00, all(nan), all(api.Flags(0))},
		// A signaling one, in each place, beside whatever.
		{0x7c01, 0x3c00, 0x3c00, all(nan), all(api.Invalid)},
		{0x3c00, 0xfc01, 0x3c00, all(nan), all(api.Invalid)},
		{0x3c00, 0x3c00, 0xfdff, all(nan), all(api.Invalid)},
		{0x7e00, 0x7dff, 0x7e00, all(nan), all(api.Invalid)},
		{0x7e00, 0x7e00, 0x7d00, all(nan), all(api.Invalid)},
		{0xfc01, 0x0000, 0x7e00, all(nan), all(api.Invalid)},
		{0x7c00, 0x7c00, 0x7c01, all(nan), all(api.Invalid)},
		// A product that is an infinity, and the infinity of the other sign.
		{0x7c00, 0x3c00, 0xfc00, all(nan), all(api.Invalid)},
		{0x7c00, 0xbc00, 0x7c00, all(nan), all(api.Invalid)},
		{0xfc00, 0xfc00, 0xfc00, all(nan), all(api.Invalid)},
		{0x0001, 0xfc00, 0x7c00, all(nan), all(api.Invalid)},
		// A product that is an infinity, and anything else.
		{0x7c00, 0x3c00, 0x7c00, all(uint64(0x7c00)), all(api.Flags(0))},
		{0xfc00, 0x3c00, 0xfc00, all(uint64(0xfc00)), all(api.Flags(0))},
		{0xfc00, 0xfc00, 0x7c00, all(uint64(0x7c00)), all(api.Flags(0))},
		{0x7c00, 0x7c00, 0xfbff, all(uint64(0x7c00)), all(api.Flags(0))},
		{0x0001, 0xfc00, 0x7bff, all(uint64(0xfc00)), all(api.Flags(0))},
		{0x7c00, 0x8001, 0x0000, all(uint64(0xfc00)), all(api.Flags(0))},
		// c is an infinity alone: a product beyond the format does not overflow then.
		{0x7bff, 0x7bff, 0xfc00, all(uint64(0xfc00)), all(api.Flags(0))},
		{0xfbff, 0x7bff, 0x7c00, all(uint64(0x7c00)), all(api.Flags(0))},
		{0x0000, 0x8000, 0xfc00, all(uint64(0xfc00)), all(api.Flags(0))},
		{0x0001, 0x0001, 0x7c00, all(uint64(0x7c00)), all(api.Flags(0))},
	})
}

// naught is 0 that came of unlike signs.
var naught = [5]uint64{0, 0, 0x8000, 0, 0}

// P15.1, by hand: zeros, sums of 0, and a zero beside a number.
func TestZeros(t *testing.T) {
	checkRows(t, []row{
		{0x0000, 0x3c00, 0x0000, all(uint64(0x0000)), all(api.Flags(0))},
		{0x8000, 0x3c00, 0x8000, all(uint64(0x8000)), all(api.Flags(0))},
		{0x7bff, 0x8000, 0x8000, all(uint64(0x8000)), all(api.Flags(0))},
		{0x8000, 0x8000, 0x0000, all(uint64(0x0000)), all(api.Flags(0))},
		{0x8000, 0xbc00, 0x8000, naught, all(api.Flags(0))},
		{0x0000, 0xbc00, 0x0000, naught, all(api.Flags(0))},
		{0x0000, 0x0000, 0x8000, naught, all(api.Flags(0))},
		{0x0001, 0x8000, 0x0000, naught, all(api.Flags(0))},
		// The exact sum is 0.
		{0x3c00, 0x3c00, 0xbc00, naught, all(api.Flags(0))},
		{0xbc00, 0x3c00, 0x3c00, naught, all(api.Flags(0))},
		{0x4000, 0x3800, 0xbc00, naught, all(api.Flags(0))},
		{0x0001, 0x3c00, 0x8001, naught, all(api.Flags(0))},
		{0xfbff, 0xbc00, 0xfbff, naught, all(api.Flags(0))},
		{0x4200, 0x4200, 0xc880, naught, all(api.Flags(0))},
		// The product is a zero.
		{0x0000, 0x7bff, 0x8001, all(uint64(0x8001)), all(api.Flags(0))},
		{0x8000, 0x3c00, 0x7bff, all(uint64(0x7bff)), all(api.Flags(0))},
		{0x0001, 0x8000, 0x0001, all(uint64(0x0001)), all(api.Flags(0))},
		{0x7bff, 0x0000, 0x0400, all(uint64(0x0400)), all(api.Flags(0))},
		// c is a zero.
		{0x4000, 0x4200, 0x8000, all(uint64(0x4600)), all(api.Flags(0))},
		{0x3c01, 0x3c01, 0x0000, [5]uint64{0x3c02, 0x3c02, 0x3c02, 0x3c03, 0x3c02}, all(inexact)},
		{0x0001, 0x3800, 0x8000, [5]uint64{0, 0, 0, 1, 1}, all(underflow)},
		{0x8001, 0x3800, 0x0000, [5]uint64{0x8000, 0x8000, 0x8001, 0x8000, 0x8001}, all(underflow)},
		{0x0001, 0x0001, 0x0000, [5]uint64{0, 0, 0, 1, 0}, all(underflow)},
	})
}

// P15.1, by hand: numbers; the product is not rounded by itself.
func TestNumbers(t *testing.T) {
	checkRows(t, []row{
		{0x4000, 0x4200, 0x3c00, all(uint64(0x4700)), all(api.Flags(0))},
		{0xc000, 0x4200, 0x3c00, all(uint64(0xc500)), all(api.Flags(0))},
		{0x3c01, 0x3c01, 0xbc02, all(uint64(0x0010)), all(api.Flags(0))},
		{0x3c01, 0xbc01, 0x3c02, all(uint64(0x8010)), all(api.Flags(0))},
		{0x3c01, 0x3c01, 0xbc00, [5]uint64{0x1800, 0x1800, 0x1800, 0x1801, 0x1801}, all(inexact)}, // 2^-9 and half a step
		{0xbc01, 0x3c01, 0x3c00, [5]uint64{0x9800, 0x9800, 0x9801, 0x9800, 0x9801}, all(inexact)},
		{0x3c01, 0x3c01, 0x0001, [5]uint64{0x3c02, 0x3c02, 0x3c02, 0x3c03, 0x3c02}, all(inexact)},
		// A product halfway between two numbers, and the least number more or less.
		{0x3e00, 0x3c01, 0x0000, [5]uint64{0x3e02, 0x3e01, 0x3e01, 0x3e02, 0x3e02}, all(inexact)},
		{0x3e00, 0x3c01, 0x0001, [5]uint64{0x3e02, 0x3e01, 0x3e01, 0x3e02, 0x3e02}, all(inexact)},
		{0x3e00, 0x3c01, 0x8001, [5]uint64{0x3e01, 0x3e01, 0x3e01, 0x3e02, 0x3e01}, all(inexact)},
		{0x3e00, 0x3c03, 0x0001, [5]uint64{0x3e05, 0x3e04, 0x3e04, 0x3e05, 0x3e05}, all(inexact)},
		{0xbe00, 0x3c03, 0x8001, [5]uint64{0xbe05, 0xbe04, 0xbe05, 0xbe04, 0xbe05}, all(inexact)},
		// A product of half c's step, and of a little more and less.
		{0x3c00, 0x1000, 0x3c00, [5]uint64{0x3c00, 0x3c00, 0x3c00, 0x3c01, 0x3c01}, all(inexact)},
		{0x3c01, 0x1000, 0x3c00, [5]uint64{0x3c01, 0x3c00, 0x3c00, 0x3c01, 0x3c01}, all(inexact)},
		{0x3bff, 0x1000, 0x3c00, [5]uint64{0x3c00, 0x3c00, 0x3c00, 0x3c01, 0x3c00}, all(inexact)},
		// A product that is far below c: 2^-48.
		{0x0001, 0x0001, 0x3c00, [5]uint64{0x3c00, 0x3c00, 0x3c00, 0x3c01, 0x3c00}, all(inexact)},
		{0x8001, 0x0001, 0x3c00, [5]uint64{0x3c00, 0x3bff, 0x3bff, 0x3c00, 0x3c00}, all(inexact)},
		{0x0001, 0x0001, 0xbc00, [5]uint64{0xbc00, 0xbbff, 0xbc00, 0xbbff, 0xbc00}, all(inexact)},
		{0x0001, 0x8001, 0x7bff, [5]uint64{0x7bff, 0x7bfe, 0x7bfe, 0x7bff, 0x7bff}, all(inexact)},
	})
}

// P15.1, by hand: at the ends of the format.
func TestEnds(t *testing.T) {
	beyond := [5]uint64{0x7c00, 0x7bff, 0x7bff, 0x7c00, 0x7c00}
	checkRows(t, []row{
		{0x7bff, 0x4000, 0x7bff, beyond, all(overflow)},
		{0x7bff, 0x7bff, 0xfbff, beyond, all(overflow)},
		{0xfbff, 0x7bff, 0x7bff, [5]uint64{0xfc00, 0xfbff, 0xfc00, 0xfbff, 0xfc00}, all(overflow)},
		// A product beyond the greatest number, and a sum that is not.
		{0x7bff, 0x4000, 0xfbff, all(uint64(0x7bff)), all(api.Flags(0))},
		{0xfbff, 0x4000, 0x7bff, all(uint64(0xfbff)), all(api.Flags(0))},
		{0x5c00, 0x5c00, 0xfbff, all(uint64(0x5000)), all(api.Flags(0))},
		// Half a step above the greatest number, and less: what is cut off to it does not overflow.
		{0x7bff, 0x3c00, 0x4c00, beyond, [5]api.Flags{overflow, inexact, inexact, overflow, overflow}},
		{0x7bff, 0x3c00, 0x4bff, [5]uint64{0x7bff, 0x7bff, 0x7bff, 0x7c00, 0x7bff}, [5]api.Flags{inexact, inexact, inexact, overflow, inexact}},
		{0x0001, 0x0001, 0x7bff, [5]uint64{0x7bff, 0x7bff, 0x7bff, 0x7c00, 0x7bff}, [5]api.Flags{inexact, inexact, inexact, overflow, inexact}},
		// A step above it.
		{0x7bff, 0x3c00, 0x5000, beyond, all(overflow)},
		// Subnormal numbers.
		{0x0001, 0x0001, 0x0001, [5]uint64{1, 1, 1, 2, 1}, all(underflow)},
		{0x0001, 0x8001, 0x0001, [5]uint64{1, 0, 0, 1, 1}, all(underflow)},
		{0x0001, 0x8001, 0x8001, [5]uint64{0x8001, 0x8001, 0x8002, 0x8001, 0x8001}, all(underflow)},
		{0x0001, 0x3800, 0x0001, [5]uint64{2, 1, 1, 2, 2}, all(underflow)},
		{0x0001, 0x3800, 0x0002, [5]uint64{2, 2, 2, 3, 3}, all(underflow)},
		{0x0400, 0x3800, 0x0200, all(uint64(0x0400)), all(api.Flags(0))},
		{0x0400, 0x3800, 0x8001, all(uint64(0x01ff)), all(api.Flags(0))},
		// At the least normal number: tiny is what stays below it with no least exponent.
		{0x0001, 0x0001, 0x0400, [5]uint64{0x0400, 0x0400, 0x0400, 0x0401, 0x0400}, all(inexact)},
		{0x0001, 0x8001, 0x0400, [5]uint64{0x0400, 0x03ff, 0x03ff, 0x0400, 0x0400}, [5]api.Flags{inexact, underflow, underflow, inexact, inexact}},
		{0x0001, 0x0001, 0x8400, [5]uint64{0x8400, 0x83ff, 0x8400, 0x83ff, 0x8400}, [5]api.Flags{inexact, underflow, inexact, underflow, inexact}},
		{0x0001, 0x3800, 0x03ff, [5]uint64{0x0400, 0x03ff, 0x03ff, 0x0400, 0x0400}, all(underflow)}, // 2^-14 less 2^-25: on the finer grid
	})
}

// P15.2, by hand: which signs are turned.
func TestFour(t *testing.T) {
	a, b, c := api.Bits{Lo: 0x4000}, api.Bits{Lo: 0x4200}, api.Bits{Lo: 0x3c00}
	for name, x := range map[string]struct {
		call func(api.Form, api.Mode, api.Bits, api.Bits, api.Bits) (api.Bits, api.Flags, api.Errno)
		want uint64
	}{"MulAdd": {MulAdd, 0x4700}, "MulSub": {MulSub, 0x4500}, "NegMulSub": {NegMulSub, 0xc500}, "NegMulAdd": {NegMulAdd, 0xc700}} {
		for _, m := range modes {
			if got := of(x.call(api.Half, m, a, b, c)); got != half(x.want, 0) {
				t.Errorf("%s(Half, %d, 4000, 4200, 3c00): %v; wanted %x", name, m, got, x.want)
			}
		}
	}
	one := api.Bits{Lo: 0x3c00}
	for _, m := range modes { // signs are turned ahead, not behind: what is 0 is not turned, and Up is up
		zero := half(naught[m], 0)
		if got := of(MulSub(api.Half, m, one, one, one)); got != zero {
			t.Errorf("MulSub(Half, %d, 3c00, 3c00, 3c00): %v", m, got)
		}
		if got := of(NegMulSub(api.Half, m, one, one, one)); got != zero {
			t.Errorf("NegMulSub(Half, %d, 3c00, 3c00, 3c00): %v", m, got)
		}
		if got := of(NegMulAdd(api.Half, m, one, one, api.Bits{Lo: 0xbc00})); got != zero {
			t.Errorf("NegMulAdd(Half, %d, 3c00, 3c00, bc00): %v", m, got)
		}
	}
	if got := of(NegMulAdd(api.Half, api.Up, one, one, api.Bits{Lo: 0x0001})); got != half(0xbc00, inexact) {
		t.Errorf("NegMulAdd(Half, Up, 3c00, 3c00, 0001): %v", got)
	}
	if got := of(NegMulAdd(api.Half, api.Down, one, one, api.Bits{Lo: 0x0001})); got != half(0xbc01, inexact) {
		t.Errorf("NegMulAdd(Half, Down, 3c00, 3c00, 0001): %v", got)
	}
}

// P15.1, P15.2: one of each class and its ends, with each other two.
func TestCorners(t *testing.T) {
	eachForm(t, func(t *testing.T, l layout) {
		list := l.corners()
		for _, a := range list {
			for _, b := range list {
				for _, c := range list {
					l.check(t, a, b, c)
				}
			}
		}
	})
}

// P15.1, P15.2: each edge of a format with each other one, and with some more.
func TestEdges(t *testing.T) {
	eachForm(t, func(t *testing.T, l layout) {
		list := l.edges()
		for i, a := range list {
			for k, b := range list {
				l.check(t, a, b, list[(i*5+k*11)%len(list)])
			}
		}
	})
}

// P15.1: significands of long carries and borrows, c at all places about the product, from where it is far above it to where it is far below, beyond a Wide's length too.
func TestDistances(t *testing.T) {
	eachForm(t, func(t *testing.T, l layout) {
		s := source(15 + l.w)
		list := l.significands()
		pick := func() *big.Int { return list[s.below(len(list))] }
		for d := -420; d <= 420; d++ {
			for range 10 {
				c := max(min(s.below(2*l.emax-1)+l.emin(), l.emax-max(-d, 0)), l.emin())
				x := (c - d) / 2
				y := c - d - x
				if x < l.emin() || x > l.emax || y < l.emin() || y > l.emax {
					continue
				}
				l.check(t, l.at(s.below(2) == 0, pick(), x), l.at(s.below(2) == 0, pick(), y), l.at(s.below(2) == 0, pick(), c))
			}
		}
	})
}

// P15.1: as far from one another as a product and a number of a format are.
func TestFar(t *testing.T) {
	eachForm(t, func(t *testing.T, l layout) {
		least, most := l.bits(false, small(1)), l.bits(false, beside(l.inf(), -1))
		for _, x := range l.significands() {
			for _, c := range []api.Bits{l.at(false, x, l.emax), l.at(true, x, 0), l.at(false, x, l.emin()), l.at(true, x, l.emin()+1)} {
				l.check(t, least, least, c)
				l.check(t, least, l.turned(least), c)
				l.check(t, l.at(false, x, l.emin()), l.at(true, x, l.emin()), c)
			}
			for _, c := range []api.Bits{least, l.turned(least), l.bits(true, beside(power(l.p-1), -1))} {
				l.check(t, l.at(false, x, l.emax/2), l.at(true, x, l.emax/2), c)
				l.check(t, l.at(true, x, 0), l.at(true, x, 0), c)
				l.check(t, most, l.at(false, x, 0), c)
			}
		}
	})
}

// P15.1: c is the rounded product with the other sign, or near that, so that all is left of the product is what was cut off, or little more.
func TestCancelled(t *testing.T) {
	eachForm(t, func(t *testing.T, l layout) {
		s := source(16 + l.w)
		for range 600 {
			a, b := l.finite(&s, l.emin(), l.emax), l.finite(&s, l.emin(), l.emax)
			if s.below(2) == 0 {
				a, b = l.finite(&s, -4, 4), l.finite(&s, -4, l.emax/2)
			}
			x := l.number(a).times(l.number(b))
			neg, i := x.n.Sign() > 0, l.rounded(x)
			for d := range int64(5) {
				if near := beside(i, d-2); near.Sign() >= 0 && near.Cmp(l.inf()) < 0 {
					l.check(t, a, b, l.bits(neg, near))
				}
			}
			l.check(t, a, b, l.bits(!neg, i))
		}
	})
}

// P15.1: products of just one bit more than the precision, which are halfway between two numbers, or of few bits more; and c far below, which decides.
func TestHalfway(t *testing.T) {
	eachForm(t, func(t *testing.T, l layout) {
		s := source(6 + l.w)
		for i := range 600 {
			k := 2 + s.below(l.p-3)
			x, y := s.bits(k), s.bits(l.p+1-k+s.below(2))
			x.SetBit(x, 0, 1).SetBit(x, k-1, 1)
			y.SetBit(y, 0, 1)
			a := l.at(i%2 == 0, raise(x, l.p-x.BitLen()), s.below(l.emax)-l.emax/2)
			b := l.at(i%3 == 0, raise(y, l.p-y.BitLen()), s.below(l.emax)-l.emax/2)
			for _, c := range l.both(small(1 + int64(s.below(3)))) {
				l.check(t, a, b, c)
			}
			l.check(t, a, b, l.finite(&s, l.emin(), l.emin()+2*l.p))
		}
	})
}

// P15.1: a product of half a step of c, of a step and of two, and right beside those.
func TestHalfSteps(t *testing.T) {
	eachForm(t, func(t *testing.T, l layout) {
		s := source(7 + l.w)
		for range 250 {
			c := l.finite(&s, l.emin()+l.p, l.emax)
			_, e := l.value(l.magnitude(c))
			for n := range int64(4) {
				step := e - 1 + int(n)/2
				a := l.finite(&s, step/2-3, step/2+3)
				if n%2 == 0 {
					a = l.at(s.below(2) == 0, power(l.p-1), max(step/2, l.emin()))
				}
				i := l.partner(a, small(1), step)
				for d := range int64(3) {
					if near := beside(i, d-1); near.Sign() >= 0 {
						l.check(t, a, l.bits(s.below(2) == 0, near), c)
					}
				}
			}
		}
	})
}

func (l layout) magnitude(b api.Bits) *big.Int {
	_, i := l.split(b)
	return i
}

// targets are magnitudes where what is delivered, or a flag, is another one beside them: the ends of the format, its least numbers and their halves, and where tiny ones end.
func (l layout) targets() []number {
	least := l.emin() - l.p + 1
	list := []number{{power(l.p), l.emin() - l.p}, {beside(power(l.p), -1), l.emin() - l.p}, {beside(power(l.p+1), -1), l.emin() - l.p - 1}, {power(l.p), l.emax + 1 - l.p}, {beside(power(l.p), -1), l.emax + 1 - l.p}, {beside(power(l.p+1), -1), l.emax - l.p}}
	for n := range int64(6) {
		list = append(list, number{small(n + 1), least - 1})
	}
	return list
}

// P15.1: sums right at, right below and right above those, of both signs: c is near or far, and the product is what is wanting.
func TestTargets(t *testing.T) {
	eachForm(t, func(t *testing.T, l layout) {
		s := source(5 + l.w)
		for _, x := range l.targets() {
			for i := range 60 {
				at := l.rounded(x)
				c := l.bits(s.below(8) == 0, at)
				if off := s.bits(1 + s.below(l.p+3)); i%4 > 0 && off.Cmp(at) <= 0 {
					c = l.bits(s.below(8) == 0, at.Sub(at, off))
				}
				wanting := x.plus(l.number(l.turned(c)))
				if wanting.n.Sign() == 0 {
					wanting = number{small(1), 2 * (l.emin() - l.p + 1)}
				}
				top := wanting.n.BitLen() + wanting.e
				a := l.finite(&s, top/2-l.p/2, top/2+l.p/2)
				b := l.partner(a, new(big.Int).Abs(wanting.n), wanting.e)
				aNeg, _ := l.split(a)
				for d := range int64(3) {
					near := beside(b, d-1)
					if near.Sign() < 0 || near.Cmp(l.inf()) >= 0 {
						continue
					}
					b := l.bits(aNeg != (wanting.n.Sign() < 0), near)
					l.check(t, a, b, c)
					l.check(t, l.turned(a), b, l.turned(c))
				}
			}
		}
	})
}

// P15.1, P15.2: some of all encodings, and some of which c is near the product.
func TestAllOver(t *testing.T) {
	eachForm(t, func(t *testing.T, l layout) {
		s := source(11 + l.w)
		for range 1500 {
			a, b := l.any(&s), l.any(&s)
			l.check(t, a, b, l.any(&s))
			if l.magnitude(a).Cmp(l.inf()) >= 0 || l.magnitude(b).Cmp(l.inf()) >= 0 {
				continue
			}
			x := l.number(a).times(l.number(b))
			i := new(big.Int).Rsh(l.rounded(number{x.n.Abs(x.n), x.e}), uint(l.p-1))
			i.Add(i, small(int64(s.below(4*l.p+9)-2*l.p-4)))
			i.Add(raise(i.Mod(i, power(l.w-l.p)), l.p-1), s.bits(l.p-1))
			l.check(t, a, b, l.bits(s.below(2) == 0, i))
		}
	})
}

// P15.1: all finite encodings of Half for one of the three, with some others for both others.
func TestAllHalf(t *testing.T) {
	t.Parallel()
	l := layouts[0]
	for k, x := range [][2]uint64{{0x3c01, 0xbc00}, {0x0001, 0x8001}, {0x2955, 0xabff}, {0x5c01, 0xfbff}} {
		t.Run(strconv.Itoa(k), func(t *testing.T) {
			t.Parallel()
			for i := range uint64(1 << 16) {
				y, b, c := api.Bits{Lo: i}, api.Bits{Lo: x[0]}, api.Bits{Lo: x[1]}
				m := modes[(int(i>>3)+k)%5]
				if got, want := of(MulAdd(api.Half, m, y, b, c)), l.wants(y, b, c)[m]; got != want {
					t.Errorf("MulAdd(Half, %d, %x, %x, %x): %v; wanted %v", m, i, x[0], x[1], got, want)
				}
				if got, want := of(MulAdd(api.Half, m, b, c, y)), l.wants(b, c, y)[m]; got != want {
					t.Errorf("MulAdd(Half, %d, %x, %x, %x): %v; wanted %v", m, x[0], x[1], i, got, want)
				}
			}
		})
	}
}

// P15.1: the language's own floats, of which two formats are, have the same fused ones.
func TestOwnFloats(t *testing.T) {
	t.Parallel()
	for _, l := range layouts[1:3] {
		s := source(64 + l.w)
		for i := range 60000 {
			a, b, c := l.any(&s), l.any(&s), l.any(&s)
			if i%2 == 0 {
				a, b, c = l.finite(&s, -9, 9), l.finite(&s, -9, 9), l.finite(&s, -20, 20)
			}
			got := of(MulAdd(l.form, api.NearEven, a, b, c))
			want, isNaN := l.own(a, b, c)
			if isNaN {
				want = l.nan().Lo
			}
			if got.b != (api.Bits{Lo: want}) || got.e != api.OK {
				t.Errorf("MulAdd(%d, NearEven, %x, %x, %x): %v; the float is %x", l.form, a, b, c, got, want)
			}
		}
	}
}

// own is the float's bits, and whether it is a NaN. A float64 holds the product of two float32s as it is, and their sum, where it is not one, is made odd on the side where it lies: so it is rounded to a float32 as the exact sum is.
func (l layout) own(a, b, c api.Bits) (uint64, bool) {
	if l.form == api.Double {
		x := math.FMA(math.Float64frombits(a.Lo), math.Float64frombits(b.Lo), math.Float64frombits(c.Lo))
		return math.Float64bits(x), x != x
	}
	single := func(b api.Bits) float64 { return float64(math.Float32frombits(uint32(b.Lo))) }
	product, addend := float64(single(a)*single(b)), single(c)
	sum := float64(product + addend)
	part := float64(sum - product)
	rest := float64(product-float64(sum-part)) + float64(addend-part)
	if rest != 0 && rest == rest && math.Float64bits(sum)&1 == 0 {
		sum = math.Nextafter(sum, math.Inf(int(math.Copysign(1, rest))))
	}
	x := float32(sum)
	return uint64(math.Float32bits(x)), x != x
}

// P15.1: of finite numbers whose sum is not 0 it is the rule's Round of the exact product and sum.
func TestRule(t *testing.T) {
	eachForm(t, func(t *testing.T, l layout) {
		s := source(9 + l.w)
		for i := range 600 {
			a, b := l.finite(&s, -l.emax/2, l.emax/2), l.finite(&s, -l.emax/2, l.emax/2)
			product := l.number(a).times(l.number(b))
			top := product.n.BitLen() + product.e
			c := l.finite(&s, top-l.p-9, top+l.p+9)
			if i%4 == 0 {
				a, b, c = l.any(&s), l.any(&s), l.any(&s)
			}
			x, fault := l.exactly(a, b, c)
			if fault != api.OK || exact.Sign(x) == 0 {
				continue
			}
			m := modes[i%5]
			if got, want := of(MulAdd(l.form, m, a, b, c)), of(rule.Round(l.form, m, x)); got != want {
				t.Errorf("MulAdd(%d, %d, %x, %x, %x): %v; the rule's %v", l.form, m, a, b, c, got, want)
			}
		}
	})
}

// exactly is a times b plus c by the exact layer; an error, if one of them is not finite.
func (l layout) exactly(a, b, c api.Bits) (api.Exact, api.Errno) {
	x, e := kind.Value(l.form, a)
	if e != api.OK {
		return x, e
	}
	y, e := kind.Value(l.form, b)
	if e != api.OK {
		return y, e
	}
	z, e := kind.Value(l.form, c)
	if e != api.OK {
		return z, e
	}
	product, e := exact.Mul(x, y)
	if e != api.OK {
		return product, e
	}
	return exact.Add(product, z)
}

// P15.3: of none, and of one, which is MulAdd with the zero whose sign is 0.
func TestDotOfFew(t *testing.T) {
	for _, l := range layouts {
		edges := l.edges()
		for _, m := range modes {
			for _, x := range [][2][]api.Bits{{nil, nil}, {{}, nil}, {nil, {}}, {{}, {}}} {
				if got := of(Dot(l.form, m, x[0], x[1])); got != (answer{}) {
					t.Errorf("Dot(%d, %d) of none: %v", l.form, m, got)
				}
			}
			for i, a := range edges {
				b := edges[(i*7+int(m))%len(edges)]
				if got, want := of(Dot(l.form, m, []api.Bits{a}, []api.Bits{b})), l.wants(a, b, api.Bits{})[m]; got != want {
					t.Errorf("Dot(%d, %d, %x, %x): %v; wanted %v", l.form, m, a, b, got, want)
				}
			}
		}
	}
}

// P15.3, by hand: the order counts, each sum is rounded and no product is by itself, and no flag is forgotten.
func TestDotByHand(t *testing.T) {
	for _, x := range []struct {
		m    api.Mode
		a, b []api.Bits
		want answer
	}{
		{api.NearEven, halves(0x3c00, 0x4000), halves(0x4000, 0x4200), half(0x4800, 0)},
		{api.NearEven, halves(0x3c00, 0x4000, 0x4200), halves(0x3c00, 0x4000, 0x4200), half(0x4b00, 0)},
		{api.NearEven, halves(0x8000), halves(0x3c00), half(0x0000, 0)},
		{api.Down, halves(0x8000), halves(0x3c00), half(0x8000, 0)},
		{api.NearEven, halves(0x3c01, 0xbc00), halves(0x3c01, 0x3c02), half(0x0000, inexact)},
		{api.Up, halves(0x3c01, 0xbc00), halves(0x3c01, 0x3c02), half(0x1400, inexact)},
		{api.NearEven, halves(0xbc00, 0x3c01), halves(0x3c02, 0x3c01), half(0x0010, 0)},
		{api.NearEven, halves(0x7bff, 0xfbff), halves(0x4000, 0x4000), half(0x7c00, overflow)},
		{api.ToZero, halves(0x7bff, 0xfbff), halves(0x4000, 0x4000), half(0xfbff, overflow)},
		{api.NearEven, halves(0x0001, 0x3c00), halves(0x0001, 0x3c00), half(0x3c00, underflow)},
		{api.NearEven, halves(0x3c00, 0x0001), halves(0x3c00, 0x0001), half(0x3c00, inexact)},
		{api.NearEven, halves(0x7c00), halves(0x0000), half(0x7e00, api.Invalid)},
		{api.NearEven, halves(0x7c00, 0x7c00), halves(0x3c00, 0xbc00), half(0x7e00, api.Invalid)},
		{api.NearEven, halves(0x7d00, 0x3c00), halves(0x3c00, 0x3c00), half(0x7e00, api.Invalid)},
		{api.NearEven, halves(0x3c00, 0xfe01), halves(0x3c00, 0x3c00), half(0x7e00, 0)},
		{api.NearEven, halves(0x0001, 0x3c00), halves(0x0001, 0x7d00), half(0x7e00, underflow|api.Invalid)},
		{api.NearEven, halves(0x7bff, 0x7c00, 0x0001), halves(0x7bff, 0xfc00, 0x0001), half(0x7e00, overflow|api.Invalid)},
		{api.NearEven, halves(0x0001, 0x7bff, 0x3c00), halves(0x0001, 0x7bff, 0x3c00), half(0x7c00, underflow|overflow)},
	} {
		if got := of(Dot(api.Half, x.m, x.a, x.b)); got != x.want {
			t.Errorf("Dot(Half, %d, %x, %x): %v; wanted %v", x.m, x.a, x.b, got, x.want)
		}
	}
}

// fold is Dot by the model.
func (l layout) fold(m api.Mode, a, b []api.Bits) answer {
	var sum answer
	for i := range a {
		next := l.wants(a[i], b[i], sum.b)[m]
		sum = answer{b: next.b, flags: sum.flags | next.flags}
	}
	return sum
}

// P15.3: lists of all lengths up to some, which are as they were, spare room behind them too.
func TestDotOfMany(t *testing.T) {
	eachForm(t, func(t *testing.T, l layout) {
		s := source(13 + l.w)
		for i := range 200 {
			var a, b []api.Bits
			for k := range i % 12 {
				a, b = append(a, l.finite(&s, -3, 3)), append(b, l.finite(&s, -3, 3))
				if i%5 == 0 && k%4 == 3 {
					a[k], b[k] = l.any(&s), l.any(&s)
				}
			}
			wholeA, wholeB := a[:cap(a)], b[:cap(b)]
			keptA, keptB := slices.Clone(wholeA), slices.Clone(wholeB)
			for _, m := range modes {
				if got, want := of(Dot(l.form, m, a, b)), l.fold(m, a, b); got != want {
					t.Errorf("Dot(%d, %d, %x, %x): %v; wanted %v", l.form, m, a, b, got, want)
				}
			}
			if !slices.Equal(wholeA, keptA) || !slices.Equal(wholeB, keptB) {
				t.Errorf("Dot changed %x and %x to %x and %x", keptA, keptB, wholeA, wholeB)
			}
		}
	})
}

// P15.3: a long list, and one list for both.
func TestDotOfLong(t *testing.T) {
	long := make([]api.Bits, 1<<16)
	for i := range long {
		long[i] = api.Bits{Lo: 0x3f800000 + uint64(i%2)<<31} // 1 and -1
	}
	if got := of(Dot(api.Single, api.NearEven, long, long)); got != half(0x47800000, 0) {
		t.Errorf("2^16 times 1: %v", got)
	}
	if got := of(Dot(api.Single, api.NearEven, long, slices.Repeat(long[:1], len(long)))); got != half(0, 0) {
		t.Errorf("1 and -1, 2^15 times each: %v", got)
	}
}

// some are the edges, and some of all encodings.
func (l layout) some(s *source, n int) []api.Bits {
	list := l.edges()
	for range n {
		list = append(list, l.any(s))
	}
	return list
}

// P15.4: with 1 for b it is Add, with its flags.
func TestTimesOne(t *testing.T) {
	eachForm(t, func(t *testing.T, l layout) {
		s := source(3 + l.w)
		one, list := l.bits(false, l.one()), l.some(&s, 120)
		for _, a := range list {
			for _, c := range list {
				if l.magnitude(a).Cmp(l.inf()) > 0 || l.magnitude(c).Cmp(l.inf()) > 0 {
					continue
				}
				m := modes[s.below(5)]
				want := of(add.Add(l.form, m, a, c))
				if got := of(MulAdd(l.form, m, a, one, c)); got != want {
					t.Errorf("MulAdd(%d, %d, %x, 1, %x): %v; Add has %v", l.form, m, a, c, got, want)
				}
				if got := of(MulAdd(l.form, m, one, a, c)); got != want {
					t.Errorf("MulAdd(%d, %d, 1, %x, %x): %v; Add has %v", l.form, m, a, c, got, want)
				}
			}
		}
	})
}

// P15.4: with the zero of the product's sign for c it is Mul.
func TestPlusZero(t *testing.T) {
	eachForm(t, func(t *testing.T, l layout) {
		s := source(4 + l.w)
		list := l.some(&s, 120)
		for _, a := range list {
			for _, b := range list {
				aNeg, _ := l.split(a)
				bNeg, _ := l.split(b)
				m, zero := modes[s.below(5)], l.bits(aNeg != bNeg, small(0))
				if got, want := of(MulAdd(l.form, m, a, b, zero)), of(mul.Mul(l.form, m, a, b)); got != want {
					t.Errorf("MulAdd(%d, %d, %x, %x, %x): %v; Mul has %v", l.form, m, a, b, zero, got, want)
				}
			}
		}
	})
}

var nothing = answer{e: api.ErrArg}

// calls are all calls with these arguments, lists of none and of some among them.
func calls(f api.Form, m api.Mode, a, b, c api.Bits) map[string]answer {
	return map[string]answer{
		"MulAdd": of(MulAdd(f, m, a, b, c)), "MulSub": of(MulSub(f, m, a, b, c)), "NegMulSub": of(NegMulSub(f, m, a, b, c)), "NegMulAdd": of(NegMulAdd(f, m, a, b, c)),
		"Dot": of(Dot(f, m, []api.Bits{a, b}, []api.Bits{b, c})),
	}
}

// P15.1 to P15.3: what is no format, and what is no mode, whatever is beside it.
func TestNoFormatNoMode(t *testing.T) {
	list := append(halves(0, 0x3c00, 0x7c00, 0x7c01, 0x7e00), api.Bits{Hi: 1 << 63, Lo: 1})
	for f := range 256 {
		for m := range 256 {
			if f < 4 && m < 5 {
				continue
			}
			a, b, c := list[(f+m)%len(list)], list[f%len(list)], list[m%len(list)]
			all := calls(api.Form(f), api.Mode(m), a, b, c)
			all["Dot of none"] = of(Dot(api.Form(f), api.Mode(m), nil, nil))
			for name, got := range all {
				if got != nothing {
					t.Fatalf("%s (%d, %d, %x, %x, %x): %v", name, f, m, a, b, c, got)
				}
			}
		}
	}
}

// P15.1 to P15.3: bits that are no encoding, at each place above the width, as each of the three and at each place of both lists, beside whatever is there.
func TestNoEncoding(t *testing.T) {
	t.Parallel()
	for _, l := range layouts[:3] {
		edges := l.edges()
		for place := l.w; place < 128; place++ {
			for i, b := range edges {
				bad := b
				bad.Lo |= 1 << place
				if place >= 64 {
					bad.Hi |= 1 << (place - 64)
				}
				m, good := modes[i%5], edges[(i+place)%len(edges)]
				for k, x := range [][3]api.Bits{{bad, good, good}, {good, bad, good}, {good, good, bad}, {bad, bad, bad}} {
					for name, got := range calls(l.form, m, x[0], x[1], x[2]) {
						if got != nothing {
							t.Fatalf("%s (%d, %d, %x): %v", name, l.form, m, x, got)
						}
					}
					lists := [2][]api.Bits{{good, good, good}, x[:]}
					if got := of(Dot(l.form, m, lists[k%2], lists[1-k%2])); got != nothing {
						t.Fatalf("Dot(%d, %d, %x, %x): %v", l.form, m, lists[k%2], lists[1-k%2], got)
					}
				}
			}
		}
	}
}

// P15.3: lists that are not equally long, whichever is the longer one; and what is no encoding behind what raised flags leaves none of them.
func TestUnlikeLists(t *testing.T) {
	for n := range 6 {
		for k := range 6 {
			a, b := halves(0x7bff, 0x7bff, 0x7c00, 0x7d00, 0x3c00)[:n], halves(0x7bff, 0x7bff, 0x3c00, 0x3c00, 0x0001)[:k]
			got := of(Dot(api.Half, api.NearEven, a, b))
			if (got == nothing) != (len(a) != len(b)) {
				t.Errorf("Dot of %d and %d: %v", n, k, got)
			}
		}
	}
	if got := of(Dot(api.Half, api.NearEven, halves(0x7bff, 0x3c00), halves(0x7bff, 0x10000))); got != nothing {
		t.Errorf("Dot of what overflows, and no encoding: %v", got)
	}
}

// P0.1: whatever is handed in, an encoding and flags that go together, or ErrArg and nothing; a second time the same.
func TestWhatever(t *testing.T) {
	s := source(78)
	for range 40000 {
		f, m := api.Form(s.below(5)), api.Mode(s.below(6))
		l := layouts[s.below(4)]
		a, b, c := l.any(&s), l.any(&s), l.any(&s)
		got := of(MulAdd(f, m, a, b, c))
		if again := of(MulAdd(f, m, a, b, c)); again != got {
			t.Errorf("MulAdd(%d, %d, %x, %x, %x): %v, then %v", f, m, a, b, c, got, again)
		}
		if f > 3 || m > 4 || !shape.Fits(f, a) || !shape.Fits(f, b) || !shape.Fits(f, c) {
			if got != nothing {
				t.Errorf("MulAdd(%d, %d, %x, %x, %x): %v; wanted ErrArg", f, m, a, b, c, got)
			}
			continue
		}
		switch got.flags {
		case 0, inexact, overflow, underflow, api.Invalid:
		default:
			t.Errorf("MulAdd(%d, %d, %x, %x, %x): flags %d", f, m, a, b, c, got.flags)
		}
		if got.e != api.OK || !shape.Fits(f, got.b) {
			t.Errorf("MulAdd(%d, %d, %x, %x, %x): %v", f, m, a, b, c, got)
		}
	}
}
