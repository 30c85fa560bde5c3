package add

import (
	"math"
	"math/big"
	"slices"
	"strconv"
	"testing"

	"abacus/api"
	"abacus/exact"
	"abacus/kind"
	"abacus/rule"
	"abacus/shape"
)

const (
	inexact  = api.Inexact
	overflow = api.Overflow | api.Inexact
)

// check holds Add and Sub of two encodings, by all modes and both ways round, against what the model says.
func (l layout) check(t *testing.T, a, b api.Bits) {
	t.Helper()
	turned := l.turned(b)
	for m, want := range l.wants(a, b) {
		m := api.Mode(m)
		if got := of(Add(l.form, m, a, b)); got != want {
			t.Errorf("Add(%d, %d, %x, %x): %v; wanted %v", l.form, m, a, b, got, want)
		}
		if got := of(Add(l.form, m, b, a)); got != want {
			t.Errorf("Add(%d, %d, %x, %x): %v; wanted %v", l.form, m, b, a, got, want)
		}
		if got := of(Sub(l.form, m, a, turned)); got != want {
			t.Errorf("Sub(%d, %d, %x, %x): %v; wanted %v", l.form, m, a, turned, got, want)
		}
	}
}

// eachForm runs a test on each format, all at the same time as one another and as other tests.
func eachForm(t *testing.T, test func(t *testing.T, l layout)) {
	t.Parallel()
	for _, l := range layouts {
		t.Run(strconv.Itoa(l.w), func(t *testing.T) {
			t.Parallel()
			test(t, l)
		})
	}
}

func halves(list ...uint64) []api.Bits {
	var out []api.Bits
	for _, x := range list {
		out = append(out, api.Bits{Lo: x})
	}
	return out
}

func half(bits uint64, flags api.Flags) answer { return answer{b: api.Bits{Lo: bits}, flags: flags} }

// The chapter's examples, and the whole document's.
func TestExamples(t *testing.T) {
	for _, c := range []struct {
		m    api.Mode
		a, b uint64
		want answer
	}{
		{api.NearEven, 0x3c00, 0x3c00, half(0x4000, 0)},
		{api.NearEven, 0x7bff, 0x7bff, half(0x7c00, overflow)},
		{api.ToZero, 0x7bff, 0x7bff, half(0x7bff, overflow)},
		{api.NearEven, 0x7c00, 0xfc00, half(0x7e00, api.Invalid)},
		{api.NearEven, 0x7c01, 0x3c00, half(0x7e00, api.Invalid)},
		{api.NearEven, 0x7e01, 0x3c00, half(0x7e00, 0)},
		{api.Down, 0x3c00, 0xbc00, half(0x8000, 0)},
		{api.Up, 0x3c00, 0xbc00, half(0x0000, 0)},
		{api.Down, 0x0000, 0x8000, half(0x8000, 0)},
		{api.NearEven, 0x3c00, 0x1000, half(0x3c00, inexact)},
		{api.Up, 0x3c00, 0x1000, half(0x3c01, inexact)},
	} {
		if got := of(Add(api.Half, c.m, api.Bits{Lo: c.a}, api.Bits{Lo: c.b})); got != c.want {
			t.Errorf("Add(Half, %d, %x, %x): %v; wanted %v", c.m, c.a, c.b, got, c.want)
		}
	}
	if got := of(Sub(api.Half, api.NearEven, api.Bits{Lo: 0x3c00}, api.Bits{Lo: 0x3bff})); got != half(0x1000, 0) {
		t.Errorf("Sub(Half, NearEven, 3c00, 3bff): %v", got)
	}
	for _, c := range []struct {
		m    api.Mode
		l    []api.Bits
		want answer
	}{
		{api.NearEven, nil, half(0, 0)},
		{api.NearEven, halves(0xfe01), half(0xfe01, 0)},
		{5, halves(0x3c00), answer{e: api.ErrArg}},
	} {
		if got := of(Sum(api.Half, c.m, c.l...)); got != c.want {
			t.Errorf("Sum(Half, %d, %x): %v; wanted %v", c.m, c.l, got, c.want)
		}
	}
}

// P11.1, by hand: each of its cases, and that the one named first holds.
func TestCases(t *testing.T) {
	for _, c := range []struct {
		a, b  uint64
		want  [5]uint64 // NearEven, ToZero, Down, Up, NearAway
		flags api.Flags
	}{
		// A NaN, ahead of all: canonical whichever it was; Invalid of a signaling one alone, on either side.
		{0x7e00, 0x7c00, same(0x7e00), 0},
		{0xfe01, 0x0000, same(0x7e00), 0},
		{0x7fff, 0xfc00, same(0x7e00), 0},
		{0x7e00, 0xffff, same(0x7e00), 0},
		{0x7c01, 0x7c00, same(0x7e00), api.Invalid},
		{0xfc01, 0xfe00, same(0x7e00), api.Invalid},
		{0x7fff, 0x7dff, same(0x7e00), api.Invalid},
		{0x7dff, 0xfdff, same(0x7e00), api.Invalid},
		{0x8000, 0xfd00, same(0x7e00), api.Invalid},
		// Infinities.
		{0x7c00, 0xfc00, same(0x7e00), api.Invalid},
		{0xfc00, 0x7c00, same(0x7e00), api.Invalid},
		{0x7c00, 0x7c00, same(0x7c00), 0},
		{0xfc00, 0xfc00, same(0xfc00), 0},
		{0x7c00, 0xfbff, same(0x7c00), 0},
		{0x7bff, 0xfc00, same(0xfc00), 0},
		{0x7c00, 0x8000, same(0x7c00), 0},
		// Zeros.
		{0x0000, 0x0000, same(0x0000), 0},
		{0x8000, 0x8000, same(0x8000), 0},
		{0x0000, 0x8000, [5]uint64{0, 0, 0x8000, 0, 0}, 0},
		{0x8000, 0x0000, [5]uint64{0, 0, 0x8000, 0, 0}, 0},
		// Sums of 0.
		{0x0001, 0x8001, [5]uint64{0, 0, 0x8000, 0, 0}, 0},
		{0xfbff, 0x7bff, [5]uint64{0, 0, 0x8000, 0, 0}, 0},
		// A zero and a number.
		{0x8000, 0x0001, same(0x0001), 0},
		{0x0000, 0xfbff, same(0xfbff), 0},
		// Numbers.
		{0x0001, 0x0001, same(0x0002), 0},
		{0x03ff, 0x0001, same(0x0400), 0},
		{0x0400, 0x8001, same(0x03ff), 0},
		{0x3c00, 0x9000, same(0x3bff), 0},
		{0x3c00, 0x8c00, [5]uint64{0x3c00, 0x3bff, 0x3bff, 0x3c00, 0x3c00}, inexact},
		{0x3c00, 0x0001, [5]uint64{0x3c00, 0x3c00, 0x3c00, 0x3c01, 0x3c00}, inexact},
		{0x3c00, 0x8001, [5]uint64{0x3c00, 0x3bff, 0x3bff, 0x3c00, 0x3c00}, inexact},
		{0xbc00, 0x8001, [5]uint64{0xbc00, 0xbc00, 0xbc01, 0xbc00, 0xbc00}, inexact},
		{0x3c01, 0x1000, [5]uint64{0x3c02, 0x3c01, 0x3c01, 0x3c02, 0x3c02}, inexact},
		{0xbc00, 0x9000, [5]uint64{0xbc00, 0xbc00, 0xbc01, 0xbc00, 0xbc01}, inexact},
		{0x3c00, 0x1001, [5]uint64{0x3c01, 0x3c00, 0x3c00, 0x3c01, 0x3c01}, inexact},
		// What overflows.
		{0x7bff, 0x7bff, [5]uint64{0x7c00, 0x7bff, 0x7bff, 0x7c00, 0x7c00}, overflow},
		{0xfbff, 0xfbff, [5]uint64{0xfc00, 0xfbff, 0xfc00, 0xfbff, 0xfc00}, overflow},
	} {
		for m, want := range c.want {
			if got := of(Add(api.Half, api.Mode(m), api.Bits{Lo: c.a}, api.Bits{Lo: c.b})); got != half(want, c.flags) {
				t.Errorf("Add(Half, %d, %x, %x): %v; wanted %x, flags %d", m, c.a, c.b, got, want, c.flags)
			}
		}
	}
}

// P11.1, by hand: half a step above the greatest number, and less than that: what is cut off to the greatest number does not overflow.
func TestAtGreatest(t *testing.T) {
	most, beyond, cut := uint64(0x7bff), half(0x7c00, overflow), half(0x7bff, inexact)
	for _, c := range []struct {
		b    uint64
		want [5]answer
	}{
		{0x4c00, [5]answer{beyond, cut, cut, beyond, beyond}},
		{0x4bff, [5]answer{cut, cut, cut, beyond, cut}},
		{0x0001, [5]answer{cut, cut, cut, beyond, cut}},
	} {
		for m, want := range c.want {
			if got := of(Add(api.Half, api.Mode(m), api.Bits{Lo: most}, api.Bits{Lo: c.b})); got != want {
				t.Errorf("Add(Half, %d, %x, %x): %v; wanted %v", m, most, c.b, got, want)
			}
		}
	}
}

func same(x uint64) [5]uint64 { return [5]uint64{x, x, x, x, x} }

// P11.1, P11.2: each edge of a format with each other one.
func TestEdges(t *testing.T) {
	eachForm(t, func(t *testing.T, l layout) {
		list := l.edges()
		for _, a := range list {
			for _, b := range list {
				l.check(t, a, b)
			}
		}
	})
}

// P11.1: significands that make carries, borrows and halves, at all distances at which both have a part in the sum, and some beyond.
func TestDistances(t *testing.T) {
	eachForm(t, func(t *testing.T, l layout) {
		for d := range l.p + 6 {
			for _, x := range l.significands() {
				for i, y := range l.significands() {
					top := min(l.emax-1, l.emin()+d+i)
					if top-d < l.emin() {
						continue
					}
					l.check(t, l.at(false, x, top), l.at(i%2 == 0, y, top-d))
					l.check(t, l.at(i%3 == 0, x, top), l.at(true, y, top-d))
				}
			}
		}
	})
}

// P11.1: as far from one another as numbers of a format are, and at the most and the least that is cut off.
func TestFar(t *testing.T) {
	eachForm(t, func(t *testing.T, l layout) {
		for _, x := range l.significands() {
			a := l.at(false, x, l.emax)
			for _, b := range append(l.both(small(1)), l.both(beside(power(l.p-1), -1))...) {
				l.check(t, a, b)
				l.check(t, l.turned(a), b)
			}
			for d := range 2 * l.emax {
				if d < 40 || d%97 == 0 {
					l.check(t, a, l.at(true, x, l.emax-d))
				}
			}
		}
	})
}

// P11.1, P11.2: some of all encodings, and some that are near one another.
func TestAllOver(t *testing.T) {
	eachForm(t, func(t *testing.T, l layout) {
		s := source(11 + l.w)
		for range 4000 {
			a := l.any(&s)
			l.check(t, a, l.any(&s))
			l.check(t, a, l.near(&s, a))
		}
	})
}

// halfValue is what a finite encoding of Half is, in steps of 2^-24.
func halfValue(x uint64) int64 {
	field, fraction := x>>10&31, int64(x&1023)
	v := fraction
	if field != 0 {
		v = (fraction + 1024) << (field - 1)
	}
	if x>>15 == 1 {
		return -v
	}
	return v
}

// halfRounded is a sum that is not 0, in steps of 2^-24, rounded to Half: values are those of all encodings from 0 to the infinity.
func halfRounded(values []int64, m api.Mode, x int64) answer {
	neg := x < 0
	if neg {
		x = -x
	}
	i, is := slices.BinarySearch(values, x)
	r := uint64(i)
	var flags api.Flags
	if !is {
		r--
		low, high := int64(1)<<40, int64(1)<<40+1<<30
		if i < len(values) {
			low, high = values[i-1], values[i]
		}
		if goesUp(m, neg, r&1 == 1, int(2*x-low-high)) {
			r++
		}
		flags = inexact
	}
	if r >= 0x7c00 {
		r, flags = 0x7c00, overflow
		if m == api.ToZero || m == api.Down && !neg || m == api.Up && neg {
			r--
		}
	}
	if neg {
		r |= 0x8000
	}
	return half(r, flags)
}

// P11.1: all finite encodings of Half, each with some others.
func TestAllHalf(t *testing.T) {
	t.Parallel()
	var values []int64
	for i := range uint64(0x7c01) {
		values = append(values, halfValue(i))
	}
	others := []uint64{0x0001, 0x8001, 0x03ff, 0x83ff, 0x0400, 0x8401, 0x1000, 0x9001, 0x2955, 0xabff, 0x3c00, 0xbc00, 0x3bff, 0xbc01, 0x4d55, 0xd3fe, 0x6801, 0xe803, 0x7bff, 0xfbff}
	for k, b := range others {
		t.Run(strconv.FormatUint(b, 16), func(t *testing.T) {
			t.Parallel()
			for a := range uint64(1 << 16) {
				sum := halfValue(a) + halfValue(b)
				if a>>10&31 == 31 || sum == 0 {
					continue
				}
				m := modes[(int(a>>3)+k)%5]
				if got, want := of(Add(api.Half, m, api.Bits{Lo: a}, api.Bits{Lo: b})), halfRounded(values, m, sum); got != want {
					t.Errorf("Add(Half, %d, %x, %x): %v; wanted %v", m, a, b, got, want)
				}
			}
		})
	}
}

// P11.1: the language's own floats, of which two formats are, have the same sums.
func TestOwnFloats(t *testing.T) {
	t.Parallel()
	for _, l := range layouts[1:3] {
		s := source(64 + l.w)
		for i := range 40000 {
			a := l.any(&s)
			b := l.near(&s, a)
			if i%4 == 0 {
				b = l.any(&s)
			}
			for _, call := range []struct {
				got  answer
				sign float64
			}{{of(Add(l.form, api.NearEven, a, b)), 1}, {of(Sub(l.form, api.NearEven, a, b)), -1}} {
				want, nan := l.ownSum(a, b, call.sign)
				if nan {
					want = l.nan().Lo
				}
				if call.got.b != (api.Bits{Lo: want}) || call.got.e != api.OK {
					t.Errorf("format %d, %x and %x times %v: %v; the float is %x", l.form, a, b, call.sign, call.got, want)
				}
			}
		}
	}
}

// ownSum is the float's bits, and whether it is a NaN.
func (l layout) ownSum(a, b api.Bits, sign float64) (uint64, bool) {
	if l.form == api.Single {
		x := math.Float32frombits(uint32(a.Lo)) + float32(sign)*math.Float32frombits(uint32(b.Lo))
		return uint64(math.Float32bits(x)), x != x
	}
	x := math.Float64frombits(a.Lo) + sign*math.Float64frombits(b.Lo)
	return math.Float64bits(x), x != x
}

// P11.1: of finite numbers whose sum is not 0 it is the rule's Round of the exact sum.
func TestRule(t *testing.T) {
	eachForm(t, func(t *testing.T, l layout) {
		s := source(9 + l.w)
		for i := range 1500 {
			a := l.any(&s)
			b := l.near(&s, a)
			x, e := kind.Value(l.form, a)
			y, fault := kind.Value(l.form, b)
			if e != api.OK || fault != api.OK {
				continue
			}
			sum, e := exact.Add(x, y)
			if e != api.OK {
				t.Fatalf("the exact sum of %x and %x: %v", a, b, e)
			}
			if exact.Sign(sum) == 0 {
				continue
			}
			m := modes[i%5]
			if got, want := of(Add(l.form, m, a, b)), of(rule.Round(l.form, m, sum)); got != want {
				t.Errorf("Add(%d, %d, %x, %x): %v; the rule's %v", l.form, m, a, b, got, want)
			}
		}
	})
}

// fold is Sum by the model, of two or more.
func (l layout) fold(m api.Mode, list []api.Bits) answer {
	sum := answer{b: list[0]}
	for _, b := range list[1:] {
		next := l.wants(sum.b, b)[m]
		sum = answer{b: next.b, flags: sum.flags | next.flags}
	}
	return sum
}

// P11.3: of none, of one (whatever it is, a signaling NaN too), and of two.
func TestSumOfFew(t *testing.T) {
	for _, l := range layouts {
		for _, m := range modes {
			for _, none := range [][]api.Bits{nil, {}} {
				if got := of(Sum(l.form, m, none...)); got != (answer{}) {
					t.Errorf("Sum(%d, %d): %v", l.form, m, got)
				}
			}
			for i, a := range l.edges() {
				if got := of(Sum(l.form, m, a)); got != (answer{b: a}) {
					t.Errorf("Sum(%d, %d, %x): %v", l.form, m, a, got)
				}
				b := l.edges()[(i*7+int(m))%len(l.edges())]
				if got, want := of(Sum(l.form, m, a, b)), l.wants(a, b)[m]; got != want {
					t.Errorf("Sum(%d, %d, %x, %x): %v; wanted %v", l.form, m, a, b, got, want)
				}
			}
		}
	}
}

// P11.3, by hand: the order counts, each sum is rounded, and no flag is forgotten.
func TestSumByHand(t *testing.T) {
	for _, c := range []struct {
		m    api.Mode
		l    []api.Bits
		want answer
	}{
		{api.NearEven, halves(0x3c00, 0x3c00, 0x3c00), half(0x4200, 0)},
		{api.NearEven, halves(0x3c00, 0x1000, 0x1000), half(0x3c00, inexact)},
		{api.NearEven, halves(0x1000, 0x1000, 0x3c00), half(0x3c01, 0)},
		{api.Up, halves(0x3c00, 0x0001, 0x0001), half(0x3c02, inexact)},
		{api.NearEven, halves(0x7bff, 0x7bff, 0xfc00), half(0x7e00, overflow|api.Invalid)},
		{api.NearEven, halves(0x7bff, 0x7bff, 0xfbff), half(0x7c00, overflow)},
		{api.NearEven, halves(0x7bff, 0xfbff, 0x7bff), half(0x7bff, 0)},
		{api.ToZero, halves(0x7bff, 0x7bff, 0xfbff), half(0x0000, overflow)},
		{api.Down, halves(0x3c00, 0xbc00, 0x0000), half(0x8000, 0)},
		{api.NearEven, halves(0x7c01, 0x3c00, 0x3c00), half(0x7e00, api.Invalid)},
		{api.NearEven, halves(0x3c00, 0x3c00, 0xfc01), half(0x7e00, api.Invalid)},
		{api.NearEven, halves(0xfe01, 0x3c00, 0x7e01), half(0x7e00, 0)},
		{api.NearEven, halves(0x8000, 0x8000, 0x8000), half(0x8000, 0)},
		{api.NearEven, halves(0x8000, 0x8000, 0x8000, 0x0000), half(0x0000, 0)},
	} {
		if got := of(Sum(api.Half, c.m, c.l...)); got != c.want {
			t.Errorf("Sum(Half, %d, %x): %v; wanted %v", c.m, c.l, got, c.want)
		}
	}
}

// P11.3: lists of all lengths up to some, and one long list.
func TestSumOfMany(t *testing.T) {
	eachForm(t, func(t *testing.T, l layout) {
		s := source(13 + l.w)
		for i := range 300 {
			list := []api.Bits{l.any(&s), l.any(&s)}
			for range i % 12 {
				list = append(list, l.near(&s, list[0]))
			}
			kept := slices.Clone(list)
			for _, m := range modes {
				if got, want := of(Sum(l.form, m, list...)), l.fold(m, list); got != want {
					t.Errorf("Sum(%d, %d, %x): %v; wanted %v", l.form, m, list, got, want)
				}
			}
			if !slices.Equal(list, kept) {
				t.Errorf("Sum changed %x to %x", kept, list)
			}
		}
	})
	long := make([]api.Bits, 1<<16)
	for i := range long {
		long[i] = api.Bits{Lo: 0x3f800000}
	}
	if got := of(Sum(api.Single, api.NearEven, long...)); got != half(0x47800000, 0) {
		t.Errorf("Sum of 2^16 ones of Single: %v", got)
	}
}

// P11.4: of two numbers of which each is at most twice the other one, above 0, the difference is exact, and so has no flags.
func TestNearDifference(t *testing.T) {
	eachForm(t, func(t *testing.T, l layout) {
		s := source(2 + l.w)
		for i := range 4000 {
			a := l.near(&s, l.any(&s))
			_, n := l.split(a)
			if n.Sign() == 0 || n.Cmp(l.inf()) >= 0 {
				continue
			}
			x := l.number(l.bits(false, n))
			high := l.spot(number{raise(x.n, 1), x.e}).low // twice it, or the infinity
			k := new(big.Int).Sub(high, n)
			k.Mod(s.bits(l.w+8), beside(k, 1)).Add(k, n)
			if i%9 == 0 {
				k = high
			}
			if k.Cmp(l.inf()) == 0 {
				continue
			}
			for _, m := range modes {
				l.checkExact(t, m, l.bits(false, n), l.bits(false, k))
				l.checkExact(t, m, l.bits(false, k), l.bits(false, n))
			}
		}
	})
}

// checkExact holds Sub against the difference, which must be on the grid.
func (l layout) checkExact(t *testing.T, m api.Mode, a, b api.Bits) {
	t.Helper()
	got := of(Sub(l.form, m, a, b))
	want := l.number(a).plus(l.number(l.turned(b)))
	is := l.number(got.b)
	if got.flags != 0 || got.e != api.OK || is.plus(number{new(big.Int).Neg(want.n), want.e}).n.Sign() != 0 {
		t.Errorf("Sub(%d, %d, %x, %x): %v", l.form, m, a, b, got)
	}
}

// P11.4: a finite number and a zero of its own sign; a zero of the other sign too, if it is not 0.
func TestZeroOfOwnSign(t *testing.T) {
	for _, l := range layouts {
		s := source(3 + l.w)
		list := l.edges()
		for range 500 {
			list = append(list, l.any(&s))
		}
		for _, a := range list {
			neg, i := l.split(a)
			if i.Cmp(l.inf()) >= 0 {
				continue
			}
			for _, m := range modes {
				for _, sign := range signs {
					zero := l.bits(sign, small(0))
					if i.Sign() == 0 && sign != neg {
						continue
					}
					if got := of(Add(l.form, m, a, zero)); got != (answer{b: a}) {
						t.Errorf("Add(%d, %d, %x, %x): %v", l.form, m, a, zero, got)
					}
				}
			}
		}
	}
}

// P11.4: all sums below the least normal number are exact, and none raises Underflow.
func TestNoUnderflow(t *testing.T) {
	for _, l := range layouts {
		s := source(4 + l.w)
		for i := range 6000 {
			top := int64(s.below(l.p + 3))
			a := l.bits(false, new(big.Int).Add(raise(small(top), l.p-1), s.bits(l.p-1)))
			b := l.bits(i%5 != 0, new(big.Int).Add(raise(small(max(top-int64(s.below(3)), 0)), l.p-1), s.bits(l.p-1)))
			m := modes[i%5]
			got := of(Add(l.form, m, a, b))
			_, n := l.split(got.b)
			if got.flags&api.Underflow != 0 || n.Cmp(power(l.p-1)) < 0 && got.flags != 0 {
				t.Errorf("Add(%d, %d, %x, %x): %v", l.form, m, a, b, got)
			}
		}
	}
}

var nothing = answer{e: api.ErrArg}

// calls are all calls with these arguments, lists of one and of none among them.
func calls(f api.Form, m api.Mode, a, b api.Bits) map[string]answer {
	return map[string]answer{
		"Add": of(Add(f, m, a, b)), "Sub": of(Sub(f, m, a, b)), "Sum of 2": of(Sum(f, m, a, b)),
		"Sum of 3": of(Sum(f, m, a, b, a)), "Sum of 0": of(Sum(f, m)), "Sum of 1": of(Sum(f, m, a)),
	}
}

// P11.1 to P11.3: what is no format, and what is no mode, whatever is beside it.
func TestNoFormatNoMode(t *testing.T) {
	list := append(halves(0, 0x3c00, 0x7c00, 0x7c01, 0x7e00), api.Bits{Hi: 1 << 63, Lo: 1})
	for f := range 256 {
		for m := range 256 {
			if f < 4 && m < 5 {
				continue
			}
			a, b := list[(f+m)%len(list)], list[f%len(list)]
			for name, got := range calls(api.Form(f), api.Mode(m), a, b) {
				if got != nothing {
					t.Fatalf("%s (%d, %d, %x, %x): %v", name, f, m, a, b, got)
				}
			}
		}
	}
}

// P11.1 to P11.3: bits that are no encoding, at each place above the width, on each side, beside whatever is there.
func TestNoEncoding(t *testing.T) {
	t.Parallel()
	for _, l := range layouts[:3] {
		edges := l.edges()
		for place := l.w; place < 128; place++ {
			for i, b := range edges {
				bad := b
				bad.Lo |= 1 << place
				if place >= 64 {
					bad.Hi |= 1 << (place - 64)
				}
				m, good := modes[i%5], edges[(i+place)%len(edges)]
				for name, got := range map[string]answer{
					"Add, a": of(Add(l.form, m, bad, good)), "Add, b": of(Add(l.form, m, good, bad)),
					"Sub, a": of(Sub(l.form, m, bad, good)), "Sub, b": of(Sub(l.form, m, good, bad)),
					"both": of(Sub(l.form, m, bad, bad)), "one": of(Sum(l.form, m, bad)),
					"first": of(Sum(l.form, m, bad, good, good)), "second": of(Sum(l.form, m, good, bad, good)), "last": of(Sum(l.form, m, good, good, bad)),
				} {
					if got != nothing {
						t.Fatalf("%s (%d, %d, %x, %x): %v", name, l.form, m, bad, good, got)
					}
				}
			}
		}
	}
}

// P11.3: what is no encoding behind sums that raised flags leaves none of them.
func TestNoEncodingLast(t *testing.T) {
	if got := of(Sum(api.Half, api.NearEven, halves(0x7bff, 0x7bff, 0xfc00, 0x10000)...)); got != nothing {
		t.Errorf("Sum of what overflows, and no encoding: %v", got)
	}
}

// P0.1: whatever is handed in, an encoding and flags that go together, or ErrArg and nothing; a second time the same.
func TestWhatever(t *testing.T) {
	s := source(78)
	for range 40000 {
		f, m := api.Form(s.below(5)), api.Mode(s.below(6))
		l := layouts[s.below(4)]
		a, b := l.any(&s), l.any(&s)
		got := of(Add(f, m, a, b))
		if again := of(Add(f, m, a, b)); again != got {
			t.Errorf("Add(%d, %d, %x, %x): %v, then %v", f, m, a, b, got, again)
		}
		if f > 3 || m > 4 || !shape.Fits(f, a) || !shape.Fits(f, b) {
			if got != nothing {
				t.Errorf("Add(%d, %d, %x, %x): %v; wanted ErrArg", f, m, a, b, got)
			}
			continue
		}
		switch got.flags {
		case 0, inexact, overflow, api.Invalid:
		default:
			t.Errorf("Add(%d, %d, %x, %x): flags %d", f, m, a, b, got.flags)
		}
		if got.e != api.OK || !shape.Fits(f, got.b) {
			t.Errorf("Add(%d, %d, %x, %x): %v", f, m, a, b, got)
		}
	}
}
