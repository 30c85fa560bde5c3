package div

import (
	"math"
	"math/big"
	"slices"
	"strconv"
	"testing"

	"abacus/api"
	"abacus/exact"
	"abacus/kind"
	"abacus/rule"
	"abacus/shape"
)

const (
	inexact   = api.Inexact
	overflow  = api.Overflow | api.Inexact
	underflow = api.Underflow | api.Inexact
)

// check holds Div of two encodings, by all modes, against what the model says.
func (l layout) check(t *testing.T, a, b api.Bits) {
	t.Helper()
	for m, want := range l.wants(a, b) {
		m := api.Mode(m)
		if got := of(Div(l.form, m, a, b)); got != want {
			t.Errorf("Div(%d, %d, %x, %x): %v; wanted %v", l.form, m, a, b, got, want)
		}
	}
}

// eachForm runs a test on each format, all at the same time as one another and as other tests.
func eachForm(t *testing.T, test func(t *testing.T, l layout)) {
	t.Parallel()
	for _, l := range layouts {
		t.Run(strconv.Itoa(l.w), func(t *testing.T) {
			t.Parallel()
			test(t, l)
		})
	}
}

func half(bits uint64, flags api.Flags) answer { return answer{b: api.Bits{Lo: bits}, flags: flags} }

// The chapter's examples, and the whole document's.
func TestExamples(t *testing.T) {
	for _, c := range []struct {
		m    api.Mode
		a, b uint64
		want answer
	}{
		{api.NearEven, 0x3c00, 0x4200, half(0x3555, inexact)},
		{api.Up, 0x3c00, 0x4200, half(0x3556, inexact)},
		{api.NearEven, 0x3c00, 0x8000, half(0xfc00, api.DivZero)},
		{api.NearEven, 0x0000, 0x0000, half(0x7e00, api.Invalid)},
		{api.NearEven, 0x7c00, 0xfc00, half(0x7e00, api.Invalid)},
		{api.NearEven, 0x0000, 0xc000, half(0x8000, 0)},
		{api.NearEven, 0x3c00, 0x7c00, half(0x0000, 0)},
		{api.NearEven, 0x7c00, 0x0000, half(0x7c00, 0)},
		{api.NearEven, 0x0001, 0x4000, half(0x0000, underflow)},
	} {
		if got := of(Div(api.Half, c.m, api.Bits{Lo: c.a}, api.Bits{Lo: c.b})); got != c.want {
			t.Errorf("Div(Half, %d, %x, %x): %v; wanted %v", c.m, c.a, c.b, got, c.want)
		}
	}
}

func same(x uint64) [5]uint64 { return [5]uint64{x, x, x, x, x} }

// byHand are two encodings of Half, and their quotients by NearEven, ToZero, Down, Up, NearAway; the flags are the same by all of them.
type byHand struct {
	a, b  uint64
	want  [5]uint64
	flags api.Flags
}

func (c byHand) check(t *testing.T) {
	t.Helper()
	for m, want := range c.want {
		if got := of(Div(api.Half, api.Mode(m), api.Bits{Lo: c.a}, api.Bits{Lo: c.b})); got != half(want, c.flags) {
			t.Errorf("Div(Half, %d, %x, %x): %v; wanted %x, flags %d", m, c.a, c.b, got, want, c.flags)
		}
	}
}

// P13.1, by hand: each of its cases where nothing is calculated, and that the one named first holds.
func TestCases(t *testing.T) {
	for _, c := range []byHand{
		// A NaN, ahead of all: canonical whichever it was; Invalid of a signaling one alone, on either side.
		{0x7e00, 0x7c00, same(0x7e00), 0},
		{0xfe01, 0x0000, same(0x7e00), 0},
		{0x8000, 0x7e01, same(0x7e00), 0},
		{0x7fff, 0xfc00, same(0x7e00), 0},
		{0x7e00, 0xffff, same(0x7e00), 0},
		{0xbc00, 0xffff, same(0x7e00), 0},
		{0xffff, 0x3c00, same(0x7e00), 0},
		{0x7c01, 0x7c00, same(0x7e00), api.Invalid},
		{0x7c01, 0x0000, same(0x7e00), api.Invalid},
		{0xfc01, 0xfe00, same(0x7e00), api.Invalid},
		{0x7fff, 0x7dff, same(0x7e00), api.Invalid},
		{0x7dff, 0xfdff, same(0x7e00), api.Invalid},
		{0x8000, 0xfd00, same(0x7e00), api.Invalid},
		{0x3c00, 0x7c01, same(0x7e00), api.Invalid},
		// Both infinities, and both zeros, of all signs.
		{0x7c00, 0x7c00, same(0x7e00), api.Invalid},
		{0x7c00, 0xfc00, same(0x7e00), api.Invalid},
		{0xfc00, 0x7c00, same(0x7e00), api.Invalid},
		{0xfc00, 0xfc00, same(0x7e00), api.Invalid},
		{0x0000, 0x0000, same(0x7e00), api.Invalid},
		{0x0000, 0x8000, same(0x7e00), api.Invalid},
		{0x8000, 0x0000, same(0x7e00), api.Invalid},
		{0x8000, 0x8000, same(0x7e00), api.Invalid},
		// An infinity by what is finite, zeros too: no DivZero.
		{0x7c00, 0x0000, same(0x7c00), 0},
		{0x7c00, 0x8000, same(0xfc00), 0},
		{0xfc00, 0x0000, same(0xfc00), 0},
		{0xfc00, 0x8000, same(0x7c00), 0},
		{0x7c00, 0x0001, same(0x7c00), 0},
		{0x7c00, 0x83ff, same(0xfc00), 0},
		{0xfc00, 0xfbff, same(0x7c00), 0},
		{0xfc00, 0x3c00, same(0xfc00), 0},
		// What is finite by an infinity.
		{0x0000, 0x7c00, same(0x0000), 0},
		{0x0000, 0xfc00, same(0x8000), 0},
		{0x8000, 0x7c00, same(0x8000), 0},
		{0x8000, 0xfc00, same(0x0000), 0},
		{0x7bff, 0x7c00, same(0x0000), 0},
		{0x7bff, 0xfc00, same(0x8000), 0},
		{0x8001, 0x7c00, same(0x8000), 0},
		{0xbc00, 0xfc00, same(0x0000), 0},
		// A zero by a number.
		{0x0000, 0x3c00, same(0x0000), 0},
		{0x0000, 0x8001, same(0x8000), 0},
		{0x8000, 0x7bff, same(0x8000), 0},
		{0x8000, 0x8400, same(0x0000), 0},
		// A number by a zero.
		{0x3c00, 0x0000, same(0x7c00), api.DivZero},
		{0x0001, 0x8000, same(0xfc00), api.DivZero},
		{0xfbff, 0x0000, same(0xfc00), api.DivZero},
		{0x83ff, 0x8000, same(0x7c00), api.DivZero},
		{0xbc00, 0x8000, same(0x7c00), api.DivZero},
	} {
		c.check(t)
	}
}

// P13.1, by hand: numbers by numbers.
func TestNumbers(t *testing.T) {
	for _, c := range []byHand{
		{0x4600, 0x4200, same(0x4000), 0},
		{0x4200, 0xc000, same(0xbe00), 0},
		{0xc200, 0xc000, same(0x3e00), 0},
		{0x4080, 0x3e00, same(0x3e00), 0},
		{0x0003, 0x0001, same(0x4200), 0},
		{0x0400, 0x0001, same(0x6400), 0},
		{0x3c00, 0x4200, [5]uint64{0x3555, 0x3555, 0x3555, 0x3556, 0x3555}, inexact}, // 1 by 3
		{0xbc00, 0x4200, [5]uint64{0xb555, 0xb555, 0xb556, 0xb555, 0xb555}, inexact},
		{0x0001, 0x8003, [5]uint64{0xb555, 0xb555, 0xb556, 0xb555, 0xb555}, inexact},
		{0x4000, 0x4200, [5]uint64{0x3955, 0x3955, 0x3955, 0x3956, 0x3955}, inexact},
		{0x4500, 0x4200, [5]uint64{0x3eab, 0x3eaa, 0x3eaa, 0x3eab, 0x3eab}, inexact}, // 5 by 3
		{0x3c00, 0x3c01, [5]uint64{0x3bfe, 0x3bfe, 0x3bfe, 0x3bff, 0x3bfe}, inexact},
		{0x3c00, 0x3bff, [5]uint64{0x3c01, 0x3c00, 0x3c00, 0x3c01, 0x3c01}, inexact}, // half a step above 1, and some more
		{0x3c00, 0xbbff, [5]uint64{0xbc01, 0xbc00, 0xbc01, 0xbc00, 0xbc01}, inexact},
		{0x03ff, 0x03fe, [5]uint64{0x3c01, 0x3c01, 0x3c01, 0x3c02, 0x3c01}, inexact},
		// What overflows, and what does not.
		{0x7bff, 0x3c00, same(0x7bff), 0},
		{0x77ff, 0x3800, same(0x7bff), 0},
		{0x3c00, 0x0200, same(0x7800), 0},
		{0x7bff, 0x3800, [5]uint64{0x7c00, 0x7bff, 0x7bff, 0x7c00, 0x7c00}, overflow},
		{0xfbff, 0x3800, [5]uint64{0xfc00, 0xfbff, 0xfc00, 0xfbff, 0xfc00}, overflow},
		{0x3c00, 0x0100, [5]uint64{0x7c00, 0x7bff, 0x7bff, 0x7c00, 0x7c00}, overflow}, // 65536
		{0x7bff, 0x3bff, [5]uint64{0x7c00, 0x7bff, 0x7bff, 0x7c00, 0x7c00}, overflow}, // 65536
		{0x7bfe, 0x3bff, [5]uint64{0x7bff, 0x7bfe, 0x7bfe, 0x7bff, 0x7bff}, inexact},  // right below 65504
		{0x7bff, 0x8001, [5]uint64{0xfc00, 0xfbff, 0xfc00, 0xfbff, 0xfc00}, overflow},
	} {
		c.check(t)
	}
}

// P13.1, by hand: below the least normal number; exact ones raise nothing, and no quotient that is not exact comes so near to the least normal number that it would not be tiny.
func TestBelowNormal(t *testing.T) {
	for _, c := range []byHand{
		{0x0400, 0x4000, same(0x0200), 0},
		{0x07fe, 0x4000, same(0x03ff), 0},
		{0x0002, 0x4000, same(0x0001), 0},
		{0x8002, 0x4000, same(0x8001), 0},
		{0x0001, 0x4000, [5]uint64{0, 0, 0, 1, 1}, underflow}, // half the least number
		{0x8001, 0x4000, [5]uint64{0x8000, 0x8000, 0x8001, 0x8000, 0x8001}, underflow},
		{0x0001, 0x3fff, [5]uint64{1, 0, 0, 1, 1}, underflow},
		{0x0001, 0x4001, [5]uint64{0, 0, 0, 1, 0}, underflow},
		{0x0003, 0x4000, [5]uint64{2, 1, 1, 2, 2}, underflow},
		{0x0005, 0x4000, [5]uint64{2, 2, 2, 3, 3}, underflow},
		{0x0001, 0x7bff, [5]uint64{0, 0, 0, 1, 0}, underflow},
		{0x0001, 0xfbff, [5]uint64{0x8000, 0x8000, 0x8001, 0x8000, 0x8000}, underflow},
		{0x03ff, 0x3bff, [5]uint64{0x03ff, 0x03ff, 0x03ff, 0x0400, 0x03ff}, underflow}, // right below 2^-14 less 2^-25
		{0x07ff, 0x4000, [5]uint64{0x0400, 0x03ff, 0x03ff, 0x0400, 0x0400}, underflow}, // 2^-14 less 2^-25
		{0x07ff, 0xc000, [5]uint64{0x8400, 0x83ff, 0x8400, 0x83ff, 0x8400}, underflow},
		{0x0401, 0x3c01, same(0x0400), 0},
		{0x0400, 0x3bff, [5]uint64{0x0401, 0x0400, 0x0400, 0x0401, 0x0401}, inexact}, // above it: no Underflow
	} {
		c.check(t)
	}
}

// P13.1: each edge of a format by each other one.
func TestEdges(t *testing.T) {
	eachForm(t, func(t *testing.T, l layout) {
		list := l.edges()
		for _, a := range list {
			for _, b := range list {
				l.check(t, a, b)
			}
		}
	})
}

// P13.1: outstanding significands, at exponents that make quotients all over the format and beyond its ends.
func TestSignificands(t *testing.T) {
	eachForm(t, func(t *testing.T, l layout) {
		list := l.significands()
		tops := []int{l.emin(), l.emin() + 1, l.emin() / 2, -l.p, -1, 0, 1, l.p, l.emax / 2, l.emax/2 + 1, l.emax - 1, l.emax}
		for i, x := range list {
			for k, y := range list {
				for _, top := range tops {
					l.check(t, l.at(i%2 == 0, x, top), l.at(k%3 == 0, y, 0))
					l.check(t, l.at(k%2 == 0, x, top), l.at(i%3 == 0, y, tops[(i+k)%len(tops)]))
				}
			}
		}
	})
}

// target is a magnitude.
type target struct {
	n *big.Int
	e int
}

// targets are magnitudes where what is delivered, or a flag, is another one beside them: the ends of the format, its least numbers and their halves, and where tiny ones end.
func (l layout) targets() []target {
	least := l.emin() - l.p + 1
	list := []target{{power(l.p), l.emin() - l.p}, {beside(power(l.p), -1), l.emin() - l.p}, {beside(power(l.p+1), -1), l.emin() - l.p - 1}, {power(l.p), l.emax + 1 - l.p}, {beside(power(l.p), -1), l.emax + 1 - l.p}, {beside(power(l.p+1), -1), l.emax - l.p}}
	for n := range int64(8) {
		list = append(list, target{small(n + 1), least - 1})
	}
	return list
}

// P13.1: quotients right at, right below and right above those.
func TestTargets(t *testing.T) {
	eachForm(t, func(t *testing.T, l layout) {
		s := source(5 + l.w)
		for _, x := range l.targets() {
			at := x.e + x.n.BitLen()
			low, high := max(l.emin(), l.emin()-at+1), min(l.emax, l.emax-at)
			for range 100 {
				b := l.at(s.below(2) == 0, new(big.Int).Add(power(l.p-1), s.bits(l.p-1)), low+s.below(high-low+1))
				i := l.partner(b, x.n, x.e)
				l.check(t, l.bits(false, i), b)
				l.check(t, l.bits(true, beside(i, 1)), b)
				if i.Sign() > 0 {
					l.check(t, l.bits(s.below(2) == 0, beside(i, -1)), b)
				}
			}
		}
	})
}

// near is a, of which the quotient by b, which is odd, is q less the r-th of b, by 2^k; q is odd, if r is, and has at most k bits.
func near(b *big.Int, r int64, k int) *big.Int {
	q := new(big.Int).ModInverse(b, power(k))
	q.Mul(q, small(r)).Mod(q, power(k))
	a := q.Mul(q, b).Sub(q, small(r))
	return a.Rsh(a, uint(k))
}

// oddSignificand is one of p bits.
func (l layout) oddSignificand(s *source) *big.Int {
	b := s.bits(l.p)
	return b.SetBit(b, 0, 1).SetBit(b, l.p-1, 1)
}

// P13.1: quotients as near to a number, or to the middle of two, as they come, on both sides of it.
func TestNear(t *testing.T) {
	eachForm(t, func(t *testing.T, l layout) {
		s := source(6 + l.w)
		for i := range 4000 {
			b := l.oddSignificand(&s)
			a := near(b, int64(i%12-6), l.p+1)
			if a.Sign() <= 0 {
				continue
			}
			top := s.below(l.emax) - l.emax/2
			l.check(t, l.at(i%2 == 0, raise(a, l.p-a.BitLen()), top), l.at(i%3 == 0, b, s.below(l.emax/2)-l.emax/4))
		}
	})
}

// deep checks a by b, of which the powers of two are such that b's highest bit being at low would make the least normal number a's highest bit.
func (l layout) deep(t *testing.T, s *source, a, b *big.Int, low int) {
	t.Helper()
	if low > l.emax {
		return
	}
	top := low + s.below(l.emax-low+1)
	l.check(t, l.at(s.below(2) == 0, raise(a, l.p-a.BitLen()), top-low+l.emin()), l.at(s.below(2) == 0, raise(b, l.p-b.BitLen()), top))
}

// P13.1: the same among the subnormal numbers, whose steps are coarser: the lowest bit of q is half the least number.
func TestNearBelowNormal(t *testing.T) {
	eachForm(t, func(t *testing.T, l layout) {
		s := source(7 + l.w)
		for i := range 6000 {
			b, k := l.oddSignificand(&s), 1+s.below(l.p)
			a := near(b, int64(i%10-5), k)
			if a.Sign() > 0 {
				l.deep(t, &s, a, b, 2*l.p-k-a.BitLen())
			}
		}
	})
}

// P13.1: the middles themselves, which are quotients among the subnormal numbers alone: odd multiples of half the least number.
func TestHalfway(t *testing.T) {
	eachForm(t, func(t *testing.T, l layout) {
		s := source(8 + l.w)
		for range 3000 {
			k := 1 + s.below(l.p-1)
			q, b := s.bits(k), s.bits(l.p-k)
			q.SetBit(q, 0, 1)
			b.SetBit(b, 0, 1)
			a := q.Mul(q, b)
			l.deep(t, &s, a, b, l.p+b.BitLen()-a.BitLen())
		}
	})
}

// P13.1: some of all encodings, and some whose quotients are near 1 or below the normal numbers.
func TestAllOver(t *testing.T) {
	eachForm(t, func(t *testing.T, l layout) {
		s := source(11 + l.w)
		for range 2500 {
			b := l.any(&s)
			l.check(t, l.any(&s), b)
			_, i := l.split(b)
			if i.Sign() == 0 || i.Cmp(l.inf()) >= 0 {
				continue
			}
			l.check(t, l.bits(true, l.partner(b, beside(s.bits(20), 1), -s.below(30))), b)
			l.check(t, l.bits(false, l.partner(b, beside(s.bits(l.p+2), 1), l.emin()-2*l.p+s.below(l.p))), b)
		}
	})
}

// halfValue is what a finite encoding of Half is.
func halfValue(x uint64) float64 {
	field, fraction := int(x>>10&31), float64(x&1023)
	v := math.Ldexp(fraction, -24)
	if field != 0 {
		v = math.Ldexp(fraction+1024, field-25)
	}
	if x>>15 == 1 {
		return -v
	}
	return v
}

// halfNearest is the place of a magnitude's rounding in values, which are those of all encodings from 0 to the infinity, and whether it is that.
func halfNearest(values []float64, m api.Mode, neg bool, x float64) (r uint64, is bool) {
	i, is := slices.BinarySearch(values, x)
	if is || i == len(values) {
		return uint64(i), is
	}
	middle := values[i-1]/2 + values[i]/2 // all of it exact: 12 bits
	side := 0
	if x != middle {
		side = 1
		if x < middle {
			side = -1
		}
	}
	r = uint64(i) - 1
	if goesUp(m, neg, r&1 == 1, side) {
		r++
	}
	return r, false
}

// halfRounded is a quotient of two numbers of Half, as a float64 has it, rounded to Half. One that is not exact there is further from all numbers of 12 bits than the float64 is from it: so it is rounded as the quotient itself. Whether it is tiny is told among numbers 2^20 times as great, whose step no least exponent bounds.
func halfRounded(values []float64, m api.Mode, x float64) answer {
	neg := x < 0
	x = math.Abs(x)
	r, is := halfNearest(values, m, neg, x)
	var flags api.Flags
	switch {
	case r >= 0x7c00:
		r, flags = 0x7c00, overflow
		if m == api.ToZero || m == api.Down && !neg || m == api.Up && neg {
			r--
		}
	case !is:
		flags = inexact
		if x < values[0x400] {
			if up, _ := halfNearest(values, m, neg, math.Ldexp(x, 20)); values[up] < math.Ldexp(values[0x400], 20) {
				flags = underflow
			}
		}
	}
	if neg {
		r |= 0x8000
	}
	return half(r, flags)
}

// P13.1: all finite encodings of Half, each by some others, and some by each.
func TestAllHalf(t *testing.T) {
	t.Parallel()
	var values []float64
	for i := range uint64(0x7c01) {
		values = append(values, halfValue(i))
	}
	others := []uint64{0x0001, 0x8003, 0x03ff, 0x8401, 0x2955, 0xabff, 0x3800, 0xbc01, 0x3bff, 0x4d55, 0x6801, 0xfbff}
	for k, b := range others {
		t.Run(strconv.FormatUint(b, 16), func(t *testing.T) {
			t.Parallel()
			for a := range uint64(1 << 16) {
				if a>>10&31 == 31 || a&0x7fff == 0 {
					continue
				}
				m := modes[(int(a>>3)+k)%5]
				if got, want := of(Div(api.Half, m, api.Bits{Lo: a}, api.Bits{Lo: b})), halfRounded(values, m, halfValue(a)/halfValue(b)); got != want {
					t.Errorf("Div(Half, %d, %x, %x): %v; wanted %v", m, a, b, got, want)
				}
				if got, want := of(Div(api.Half, m, api.Bits{Lo: b}, api.Bits{Lo: a})), halfRounded(values, m, halfValue(b)/halfValue(a)); got != want {
					t.Errorf("Div(Half, %d, %x, %x): %v; wanted %v", m, b, a, got, want)
				}
			}
		})
	}
}

// P13.1: the language's own floats, of which two formats are, have the same quotients.
func TestOwnFloats(t *testing.T) {
	t.Parallel()
	for _, l := range layouts[1:3] {
		s := source(64 + l.w)
		for range 40000 {
			a, b := l.any(&s), l.any(&s)
			got := of(Div(l.form, api.NearEven, a, b))
			want, nan := l.ownQuotient(a, b)
			if nan {
				want = l.nan().Lo
			}
			if got.b != (api.Bits{Lo: want}) || got.e != api.OK {
				t.Errorf("Div(%d, NearEven, %x, %x): %v; the float is %x", l.form, a, b, got, want)
			}
		}
	}
}

// ownQuotient is the float's bits, and whether it is a NaN.
func (l layout) ownQuotient(a, b api.Bits) (uint64, bool) {
	if l.form == api.Single {
		x := math.Float32frombits(uint32(a.Lo)) / math.Float32frombits(uint32(b.Lo))
		return uint64(math.Float32bits(x)), x != x
	}
	x := math.Float64frombits(a.Lo) / math.Float64frombits(b.Lo)
	return math.Float64bits(x), x != x
}

// P13.1: of finite numbers that are not 0 it is the rule's Round of the exact quotient.
func TestRule(t *testing.T) {
	eachForm(t, func(t *testing.T, l layout) {
		s := source(9 + l.w)
		for i := range 1500 {
			a, b := l.any(&s), l.any(&s)
			x, e := kind.Value(l.form, a)
			y, fault := kind.Value(l.form, b)
			if e != api.OK || fault != api.OK || exact.Sign(x) == 0 || exact.Sign(y) == 0 {
				continue
			}
			quotient, e := exact.Quo(x, y)
			if e != api.OK {
				t.Fatalf("the exact quotient of %x by %x: %v", a, b, e)
			}
			m := modes[i%5]
			if got, want := of(Div(l.form, m, a, b)), of(rule.Round(l.form, m, quotient)); got != want {
				t.Errorf("Div(%d, %d, %x, %x): %v; the rule's %v", l.form, m, a, b, got, want)
			}
		}
	})
}

// finite are a format's finite encodings at the edges, and some of all.
func (l layout) finite() []api.Bits {
	s := source(3 + l.w)
	list := l.edges()
	for range 2000 {
		list = append(list, l.any(&s))
	}
	return slices.DeleteFunc(list, func(b api.Bits) bool {
		_, i := l.split(b)
		return i.Cmp(l.inf()) >= 0
	})
}

// P13.2: a finite number by 1, by all modes; one that is not 0 by itself.
func TestByOneAndItself(t *testing.T) {
	eachForm(t, func(t *testing.T, l layout) {
		one := answer{b: l.bits(false, l.one())}
		for _, a := range l.finite() {
			_, i := l.split(a)
			for _, m := range modes {
				if got := of(Div(l.form, m, a, one.b)); got != (answer{b: a}) {
					t.Errorf("Div(%d, %d, %x, 1): %v", l.form, m, a, got)
				}
				if got := of(Div(l.form, m, a, a)); i.Sign() != 0 && got != one {
					t.Errorf("Div(%d, %d, %x, itself): %v", l.form, m, a, got)
				}
			}
		}
	})
}

// P13.2: all finite numbers of Half.
func TestAllHalfByOneAndItself(t *testing.T) {
	t.Parallel()
	for i := range uint64(1 << 16) {
		a, m := api.Bits{Lo: i}, modes[i%5]
		if i>>10&31 == 31 {
			continue
		}
		if got := of(Div(api.Half, m, a, api.Bits{Lo: 0x3c00})); got != (answer{b: a}) {
			t.Errorf("Div(Half, %d, %x, 1): %v", m, i, got)
		}
		if got := of(Div(api.Half, m, a, a)); i&0x7fff != 0 && got != half(0x3c00, 0) {
			t.Errorf("Div(Half, %d, %x, itself): %v", m, i, got)
		}
	}
}

var nothing = answer{e: api.ErrArg}

// P13.1: what is no format, and what is no mode, whatever is beside it.
func TestNoFormatNoMode(t *testing.T) {
	list := []api.Bits{{}, {Lo: 0x3c00}, {Lo: 0x7c00}, {Lo: 0x7c01}, {Lo: 0x7e00}, {Hi: 1 << 63, Lo: 1}}
	for f := range 256 {
		for m := range 256 {
			if f < 4 && m < 5 {
				continue
			}
			a, b := list[(f+m)%len(list)], list[f%len(list)]
			if got := of(Div(api.Form(f), api.Mode(m), a, b)); got != nothing {
				t.Fatalf("Div(%d, %d, %x, %x): %v", f, m, a, b, got)
			}
		}
	}
}

// P13.1: bits that are no encoding, at each place above the width, on each side, beside whatever is there.
func TestNoEncoding(t *testing.T) {
	t.Parallel()
	for _, l := range layouts[:3] {
		edges := l.edges()
		for place := l.w; place < 128; place++ {
			for i, b := range edges {
				bad := b
				bad.Lo |= 1 << place
				if place >= 64 {
					bad.Hi |= 1 << (place - 64)
				}
				m, good := modes[i%5], edges[(i+place)%len(edges)]
				for name, got := range map[string]answer{"a": of(Div(l.form, m, bad, good)), "b": of(Div(l.form, m, good, bad)), "both": of(Div(l.form, m, bad, bad))} {
					if got != nothing {
						t.Fatalf("%s of Div (%d, %d, %x, %x): %v", name, l.form, m, bad, good, got)
					}
				}
			}
		}
	}
}

// P0.1: whatever is handed in, an encoding and flags that go together, or ErrArg and nothing; a second time the same.
func TestWhatever(t *testing.T) {
	s := source(78)
	for range 40000 {
		f, m := api.Form(s.below(5)), api.Mode(s.below(6))
		l := layouts[s.below(4)]
		a, b := l.any(&s), l.any(&s)
		got := of(Div(f, m, a, b))
		if again := of(Div(f, m, a, b)); again != got {
			t.Errorf("Div(%d, %d, %x, %x): %v, then %v", f, m, a, b, got, again)
		}
		if f > 3 || m > 4 || !shape.Fits(f, a) || !shape.Fits(f, b) {
			if got != nothing {
				t.Errorf("Div(%d, %d, %x, %x): %v; wanted ErrArg", f, m, a, b, got)
			}
			continue
		}
		switch got.flags {
		case 0, inexact, overflow, underflow, api.Invalid, api.DivZero:
		default:
			t.Errorf("Div(%d, %d, %x, %x): flags %d", f, m, a, b, got.flags)
		}
		if got.e != api.OK || !shape.Fits(f, got.b) {
			t.Errorf("Div(%d, %d, %x, %x): %v", f, m, a, b, got)
		}
	}
}
