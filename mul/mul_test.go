package mul

import (
	"math"
	"math/big"
	"slices"
	"strconv"
	"testing"

	"abacus/api"
	"abacus/exact"
	"abacus/kind"
	"abacus/rule"
	"abacus/shape"
)

const (
	inexact   = api.Inexact
	overflow  = api.Overflow | api.Inexact
	underflow = api.Underflow | api.Inexact
)

// check holds Mul of two encodings, by all modes and both ways round, against what the model says.
func (l layout) check(t *testing.T, a, b api.Bits) {
	t.Helper()
	for m, want := range l.wants(a, b) {
		m := api.Mode(m)
		if got := of(Mul(l.form, m, a, b)); got != want {
			t.Errorf("Mul(%d, %d, %x, %x): %v; wanted %v", l.form, m, a, b, got, want)
		}
		if got := of(Mul(l.form, m, b, a)); got != want {
			t.Errorf("Mul(%d, %d, %x, %x): %v; wanted %v", l.form, m, b, a, got, want)
		}
	}
}

// eachForm runs a test on each format, all at the same time as one another and as other tests.
func eachForm(t *testing.T, test func(t *testing.T, l layout)) {
	t.Parallel()
	for _, l := range layouts {
		t.Run(strconv.Itoa(l.w), func(t *testing.T) {
			t.Parallel()
			test(t, l)
		})
	}
}

func halves(list ...uint64) []api.Bits {
	var out []api.Bits
	for _, x := range list {
		out = append(out, api.Bits{Lo: x})
	}
	return out
}

func half(bits uint64, flags api.Flags) answer { return answer{b: api.Bits{Lo: bits}, flags: flags} }

// The chapter's examples, and the whole document's.
func TestExamples(t *testing.T) {
	for _, c := range []struct {
		m    api.Mode
		a, b uint64
		want answer
	}{
		{api.NearEven, 0x4000, 0x4200, half(0x4600, 0)},
		{api.NearEven, 0x3555, 0x4200, half(0x3c00, inexact)},
		{api.NearEven, 0x7c00, 0x8000, half(0x7e00, api.Invalid)},
		{api.NearEven, 0x7c00, 0xc000, half(0xfc00, 0)},
		{api.NearEven, 0x8000, 0x3c00, half(0x8000, 0)},
		{api.NearEven, 0x0001, 0x3800, half(0x0000, underflow)},
		{api.Up, 0x0001, 0x3800, half(0x0001, underflow)},
		{api.NearEven, 0x7bff, 0x7bff, half(0x7c00, overflow)},
	} {
		if got := of(Mul(api.Half, c.m, api.Bits{Lo: c.a}, api.Bits{Lo: c.b})); got != c.want {
			t.Errorf("Mul(Half, %d, %x, %x): %v; wanted %v", c.m, c.a, c.b, got, c.want)
		}
	}
	if got := of(Product(api.Half, api.NearEven)); got != half(0x3c00, 0) {
		t.Errorf("Product(Half, NearEven): %v", got)
	}
	if got := of(Product(api.Half, api.NearEven, halves(0x7d00)...)); got != half(0x7d00, 0) {
		t.Errorf("Product(Half, NearEven, 7d00): %v", got)
	}
}

func same(x uint64) [5]uint64 { return [5]uint64{x, x, x, x, x} }

func all(flags api.Flags) [5]api.Flags { return [5]api.Flags{flags, flags, flags, flags, flags} }

// P12.1, by hand: each of its cases, and that the one named first holds.
func TestCases(t *testing.T) {
	for _, c := range []struct {
		a, b  uint64
		want  [5]uint64 // NearEven, ToZero, Down, Up, NearAway
		flags [5]api.Flags
	}{
		// A NaN, ahead of all: canonical whichever it was; Invalid of a signaling one alone, on either side.
		{0x7e00, 0x7c00, same(0x7e00), all(0)},
		{0xfe01, 0x0000, same(0x7e00), all(0)},
		{0x8000, 0x7e01, same(0x7e00), all(0)},
		{0x7fff, 0xfc00, same(0x7e00), all(0)},
		{0x7e00, 0xffff, same(0x7e00), all(0)},
		{0xbc00, 0xffff, same(0x7e00), all(0)},
		{0x7c01, 0x7c00, same(0x7e00), all(api.Invalid)},
		{0xfc01, 0xfe00, same(0x7e00), all(api.Invalid)},
		{0x7fff, 0x7dff, same(0x7e00), all(api.Invalid)},
		{0x7dff, 0xfdff, same(0x7e00), all(api.Invalid)},
		{0x8000, 0xfd00, same(0x7e00), all(api.Invalid)},
		// An infinity and a zero, of all signs.
		{0x7c00, 0x0000, same(0x7e00), all(api.Invalid)},
		{0xfc00, 0x0000, same(0x7e00), all(api.Invalid)},
		{0x0000, 0xfc00, same(0x7e00), all(api.Invalid)},
		{0x8000, 0x7c00, same(0x7e00), all(api.Invalid)},
		{0x8000, 0xfc00, same(0x7e00), all(api.Invalid)},
		// An infinity.
		{0x7c00, 0x7c00, same(0x7c00), all(0)},
		{0x7c00, 0xfc00, same(0xfc00), all(0)},
		{0xfc00, 0xfc00, same(0x7c00), all(0)},
		{0x7c00, 0x0001, same(0x7c00), all(0)},
		{0x7c00, 0x8001, same(0xfc00), all(0)},
		{0xfbff, 0xfc00, same(0x7c00), all(0)},
		{0x3c00, 0xfc00, same(0xfc00), all(0)},
		// A zero.
		{0x0000, 0x0000, same(0x0000), all(0)},
		{0x0000, 0x8000, same(0x8000), all(0)},
		{0x8000, 0x8000, same(0x0000), all(0)},
		{0x7bff, 0x8000, same(0x8000), all(0)},
		{0x0000, 0xfbff, same(0x8000), all(0)},
		{0x8001, 0x8000, same(0x0000), all(0)},
		// Numbers.
		{0x3c00, 0xbc00, same(0xbc00), all(0)},
		{0xc000, 0xc200, same(0x4600), all(0)},
		{0x3e00, 0x3e00, same(0x4080), all(0)},
		{0x3c01, 0x3c01, [5]uint64{0x3c02, 0x3c02, 0x3c02, 0x3c03, 0x3c02}, all(inexact)},
		{0x3c01, 0xbc01, [5]uint64{0xbc02, 0xbc02, 0xbc03, 0xbc02, 0xbc02}, all(inexact)},
		{0x3bff, 0x3bff, [5]uint64{0x3bfe, 0x3bfe, 0x3bfe, 0x3bff, 0x3bfe}, all(inexact)},
		{0x3e00, 0x3c01, [5]uint64{0x3e02, 0x3e01, 0x3e01, 0x3e02, 0x3e02}, all(inexact)}, // 1.5 and half a step more
		{0x3e00, 0x3c03, [5]uint64{0x3e04, 0x3e04, 0x3e04, 0x3e05, 0x3e05}, all(inexact)},
		{0xbe00, 0x3c03, [5]uint64{0xbe04, 0xbe04, 0xbe05, 0xbe04, 0xbe05}, all(inexact)},
		// What overflows, and what does not.
		{0x7bff, 0x4000, [5]uint64{0x7c00, 0x7bff, 0x7bff, 0x7c00, 0x7c00}, all(overflow)},
		{0xfbff, 0x4000, [5]uint64{0xfc00, 0xfbff, 0xfc00, 0xfbff, 0xfc00}, all(overflow)},
		{0x5c00, 0x5c00, [5]uint64{0x7c00, 0x7bff, 0x7bff, 0x7c00, 0x7c00}, all(overflow)},
		{0x77ff, 0x4000, same(0x7bff), all(0)},
		{0x7bff, 0x3c01, [5]uint64{0x7c00, 0x7bff, 0x7bff, 0x7c00, 0x7c00}, all(overflow)},
		{0x5bfe, 0x5c01, [5]uint64{0x7c00, 0x7bff, 0x7bff, 0x7c00, 0x7c00}, [5]api.Flags{overflow, inexact, inexact, overflow, overflow}}, // right below 65536: what is cut off to the greatest number does not overflow
		{0x4500, 0x7266, [5]uint64{0x7c00, 0x7bff, 0x7bff, 0x7c00, 0x7c00}, [5]api.Flags{overflow, inexact, inexact, overflow, overflow}}, // 65520, half a step beyond the greatest
		{0x5928, 0xde34, [5]uint64{0xfbff, 0xfbff, 0xfc00, 0xfbff, 0xfbff}, [5]api.Flags{inexact, inexact, overflow, inexact, inexact}},   // -65505
	} {
		for m, want := range c.want {
			if got := of(Mul(api.Half, api.Mode(m), api.Bits{Lo: c.a}, api.Bits{Lo: c.b})); got != half(want, c.flags[m]) {
				t.Errorf("Mul(Half, %d, %x, %x): %v; wanted %x, flags %d", m, c.a, c.b, got, want, c.flags[m])
			}
		}
	}
}

// P12.1, by hand: below the least normal number; exact ones raise nothing, and those that come to the least normal number where no exponent is the least are not tiny.
func TestBelowNormal(t *testing.T) {
	for _, c := range []struct {
		a, b  uint64
		want  [5]uint64
		flags [5]api.Flags
	}{
		{0x0400, 0x3800, same(0x0200), all(0)},
		{0x0002, 0x3800, same(0x0001), all(0)},
		{0x8002, 0x3800, same(0x8001), all(0)},
		{0x0001, 0x3800, [5]uint64{0, 0, 0, 1, 1}, all(underflow)}, // half the least number
		{0x8001, 0x3800, [5]uint64{0x8000, 0x8000, 0x8001, 0x8000, 0x8001}, all(underflow)},
		{0x0001, 0x3801, [5]uint64{1, 0, 0, 1, 1}, all(underflow)},
		{0x0001, 0x37ff, [5]uint64{0, 0, 0, 1, 0}, all(underflow)},
		{0x0003, 0x3800, [5]uint64{2, 1, 1, 2, 2}, all(underflow)},
		{0x0001, 0x0001, [5]uint64{0, 0, 0, 1, 0}, all(underflow)},
		{0x0001, 0x8001, [5]uint64{0x8000, 0x8000, 0x8001, 0x8000, 0x8000}, all(underflow)},
		{0x03ff, 0x3c01, [5]uint64{0x0400, 0x03ff, 0x03ff, 0x0400, 0x0400}, [5]api.Flags{inexact, underflow, underflow, inexact, inexact}}, // 2^-14 less 2^-34
		{0x07ff, 0x3800, [5]uint64{0x0400, 0x03ff, 0x03ff, 0x0400, 0x0400}, all(underflow)},                                                // 2^-14 less 2^-25: on the finer grid
		{0x0bfe, 0x3401, [5]uint64{0x0400, 0x03ff, 0x03ff, 0x0400, 0x0400}, [5]api.Flags{inexact, underflow, underflow, inexact, inexact}}, // nearer to 2^-14
		{0x2be0, 0x1410, [5]uint64{0x0400, 0x03ff, 0x03ff, 0x0400, 0x0400}, [5]api.Flags{inexact, underflow, underflow, inexact, inexact}}, // 2^-14 less 2^-26: as near to it as to the finer grid's one below
		{0x8bfe, 0x3401, [5]uint64{0x8400, 0x83ff, 0x8400, 0x83ff, 0x8400}, [5]api.Flags{inexact, underflow, inexact, underflow, inexact}},
	} {
		for m, want := range c.want {
			if got := of(Mul(api.Half, api.Mode(m), api.Bits{Lo: c.a}, api.Bits{Lo: c.b})); got != half(want, c.flags[m]) {
				t.Errorf("Mul(Half, %d, %x, %x): %v; wanted %x, flags %d", m, c.a, c.b, got, want, c.flags[m])
			}
		}
	}
}

// P12.1: each edge of a format with each other one.
func TestEdges(t *testing.T) {
	eachForm(t, func(t *testing.T, l layout) {
		list := l.edges()
		for _, a := range list {
			for _, b := range list {
				l.check(t, a, b)
			}
		}
	})
}

// P12.1: significands of long carries, at exponents that make products all over the format and beyond its ends.
func TestSignificands(t *testing.T) {
	eachForm(t, func(t *testing.T, l layout) {
		list := l.significands()
		tops := []int{l.emin(), l.emin() + 1, l.emin() / 2, -l.p, -1, 0, 1, l.p, l.emax / 2, l.emax/2 + 1, l.emax - 1, l.emax}
		for i, x := range list {
			for k, y := range list {
				for _, top := range tops {
					l.check(t, l.at(i%2 == 0, x, top), l.at(k%3 == 0, y, 0))
					l.check(t, l.at(k%2 == 0, x, top), l.at(i%3 == 0, y, tops[(i+k)%len(tops)]))
				}
			}
		}
	})
}

// targets are magnitudes where what is delivered, or a flag, is another one beside them: the ends of the format, its least numbers and their halves, and where tiny ones end.
func (l layout) targets() []number {
	least := l.emin() - l.p + 1
	list := []number{{power(l.p), l.emin() - l.p}, {beside(power(l.p), -1), l.emin() - l.p}, {beside(power(l.p+1), -1), l.emin() - l.p - 1}, {power(l.p), l.emax + 1 - l.p}, {beside(power(l.p), -1), l.emax + 1 - l.p}, {beside(power(l.p+1), -1), l.emax - l.p}}
	for n := range int64(8) {
		list = append(list, number{small(n + 1), least - 1})
	}
	return list
}

// P12.1: products right at, right below and right above those.
func TestTargets(t *testing.T) {
	eachForm(t, func(t *testing.T, l layout) {
		s := source(5 + l.w)
		for _, x := range l.targets() {
			for range 80 {
				top := min(max(x.e+x.n.BitLen(), l.emin())+s.below(2*l.p), l.emax)
				if x.e > 0 {
					top = s.below(l.emax)
				}
				a := l.at(false, new(big.Int).Add(power(l.p-1), s.bits(l.p-1)), top)
				i := l.partner(a, x.n, x.e)
				l.check(t, a, l.bits(false, i))
				l.check(t, a, l.bits(true, beside(i, 1)))
				if i.Sign() > 0 {
					l.check(t, a, l.bits(s.below(2) == 0, beside(i, -1)))
				}
			}
		}
	})
}

// P12.1: products of just one bit more than the precision, which are halfway between two numbers, and of few bits more.
func TestHalfway(t *testing.T) {
	eachForm(t, func(t *testing.T, l layout) {
		s := source(6 + l.w)
		for i := range 3000 {
			k := 2 + s.below(l.p-3)
			x, y := s.bits(k), s.bits(l.p+1-k+s.below(2))
			x.SetBit(x, 0, 1).SetBit(x, k-1, 1)
			y.SetBit(y, 0, 1)
			a := l.at(i%2 == 0, raise(x, l.p-x.BitLen()), s.below(l.emax)-l.emax/2)
			b := l.at(i%3 == 0, raise(y, l.p-y.BitLen()), s.below(l.emax)-l.emax/2)
			l.check(t, a, b)
		}
	})
}

// P12.1: some of all encodings, and some whose products are near 1 or below the normal numbers.
func TestAllOver(t *testing.T) {
	eachForm(t, func(t *testing.T, l layout) {
		s := source(11 + l.w)
		for range 2500 {
			a := l.any(&s)
			l.check(t, a, l.any(&s))
			_, i := l.split(a)
			if i.Sign() == 0 || i.Cmp(l.inf()) >= 0 {
				continue
			}
			a = l.bits(false, i)
			l.check(t, a, l.bits(true, l.partner(a, s.bits(20), -s.below(30))))
			l.check(t, a, l.bits(false, l.partner(a, s.bits(l.p+2), l.emin()-2*l.p+s.below(l.p))))
		}
	})
}

// halfValue is what a finite encoding of Half is.
func halfValue(x uint64) float64 {
	field, fraction := int(x>>10&31), float64(x&1023)
	v := math.Ldexp(fraction, -24)
	if field != 0 {
		v = math.Ldexp(fraction+1024, field-25)
	}
	if x>>15 == 1 {
		return -v
	}
	return v
}

// halfNearest is the place of a magnitude's rounding in values, which are those of all encodings from 0 to the infinity, and whether it is that.
func halfNearest(values []float64, m api.Mode, neg bool, x float64) (r uint64, is bool) {
	i, is := slices.BinarySearch(values, x)
	if is || i == len(values) {
		return uint64(i), is
	}
	middle := values[i-1]/2 + values[i]/2 // all of it exact: 12 bits
	side := 0
	if x != middle {
		side = 1
		if x < middle {
			side = -1
		}
	}
	r = uint64(i) - 1
	if goesUp(m, neg, r&1 == 1, side) {
		r++
	}
	return r, false
}

// halfRounded is a product that is not 0 and that a float64 holds exactly, rounded to Half. Whether it is tiny is told among numbers 2^20 times as great, whose step no least exponent bounds.
func halfRounded(values []float64, m api.Mode, x float64) answer {
	neg := x < 0
	x = math.Abs(x)
	r, is := halfNearest(values, m, neg, x)
	var flags api.Flags
	switch {
	case r >= 0x7c00:
		r, flags = 0x7c00, overflow
		if m == api.ToZero || m == api.Down && !neg || m == api.Up && neg {
			r--
		}
	case !is:
		flags = inexact
		if x < values[0x400] {
			if up, _ := halfNearest(values, m, neg, math.Ldexp(x, 20)); values[up] < math.Ldexp(values[0x400], 20) {
				flags = underflow
			}
		}
	}
	if neg {
		r |= 0x8000
	}
	return half(r, flags)
}

// P12.1: all finite encodings of Half, each with some others.
func TestAllHalf(t *testing.T) {
	t.Parallel()
	var values []float64
	for i := range uint64(0x7c01) {
		values = append(values, halfValue(i))
	}
	others := []uint64{0x0001, 0x8001, 0x0003, 0x03ff, 0x83ff, 0x0400, 0x8401, 0x1000, 0x9001, 0x2955, 0xabff, 0x3800, 0xbc01, 0x3bff, 0x3eaa, 0x4d55, 0xd3fe, 0x6801, 0x7bff, 0xfbff}
	for k, b := range others {
		t.Run(strconv.FormatUint(b, 16), func(t *testing.T) {
			t.Parallel()
			for a := range uint64(1 << 16) {
				if a>>10&31 == 31 || a&0x7fff == 0 {
					continue
				}
				m := modes[(int(a>>3)+k)%5]
				if got, want := of(Mul(api.Half, m, api.Bits{Lo: a}, api.Bits{Lo: b})), halfRounded(values, m, halfValue(a)*halfValue(b)); got != want {
					t.Errorf("Mul(Half, %d, %x, %x): %v; wanted %v", m, a, b, got, want)
				}
			}
		})
	}
}

// P12.1: the language's own floats, of which two formats are, have the same products.
func TestOwnFloats(t *testing.T) {
	t.Parallel()
	for _, l := range layouts[1:3] {
		s := source(64 + l.w)
		for range 60000 {
			a, b := l.any(&s), l.any(&s)
			got := of(Mul(l.form, api.NearEven, a, b))
			want, nan := l.ownProduct(a, b)
			if nan {
				want = l.nan().Lo
			}
			if got.b != (api.Bits{Lo: want}) || got.e != api.OK {
				t.Errorf("Mul(%d, NearEven, %x, %x): %v; the float is %x", l.form, a, b, got, want)
			}
		}
	}
}

// ownProduct is the float's bits, and whether it is a NaN.
func (l layout) ownProduct(a, b api.Bits) (uint64, bool) {
	if l.form == api.Single {
		x := math.Float32frombits(uint32(a.Lo)) * math.Float32frombits(uint32(b.Lo))
		return uint64(math.Float32bits(x)), x != x
	}
	x := math.Float64frombits(a.Lo) * math.Float64frombits(b.Lo)
	return math.Float64bits(x), x != x
}

// P12.1: of finite numbers that are not 0 it is the rule's Round of the exact product.
func TestRule(t *testing.T) {
	eachForm(t, func(t *testing.T, l layout) {
		s := source(9 + l.w)
		for i := range 1500 {
			a, b := l.any(&s), l.any(&s)
			x, e := kind.Value(l.form, a)
			y, fault := kind.Value(l.form, b)
			if e != api.OK || fault != api.OK || exact.Sign(x) == 0 || exact.Sign(y) == 0 {
				continue
			}
			product, e := exact.Mul(x, y)
			if e != api.OK {
				t.Fatalf("the exact product of %x and %x: %v", a, b, e)
			}
			m := modes[i%5]
			if got, want := of(Mul(l.form, m, a, b)), of(rule.Round(l.form, m, product)); got != want {
				t.Errorf("Mul(%d, %d, %x, %x): %v; the rule's %v", l.form, m, a, b, got, want)
			}
		}
	})
}

// fold is Product by the model, of two or more.
func (l layout) fold(m api.Mode, list []api.Bits) answer {
	product := answer{b: list[0]}
	for _, b := range list[1:] {
		next := l.wants(product.b, b)[m]
		product = answer{b: next.b, flags: product.flags | next.flags}
	}
	return product
}

// P12.2: of none, of one (whatever it is, a signaling NaN too), and of two.
func TestProductOfFew(t *testing.T) {
	for _, l := range layouts {
		for _, m := range modes {
			for _, none := range [][]api.Bits{nil, {}} {
				if got := of(Product(l.form, m, none...)); got != (answer{b: l.bits(false, l.one())}) {
					t.Errorf("Product(%d, %d): %v", l.form, m, got)
				}
			}
			for i, a := range l.edges() {
				if got := of(Product(l.form, m, a)); got != (answer{b: a}) {
					t.Errorf("Product(%d, %d, %x): %v", l.form, m, a, got)
				}
				b := l.edges()[(i*7+int(m))%len(l.edges())]
				if got, want := of(Product(l.form, m, a, b)), l.wants(a, b)[m]; got != want {
					t.Errorf("Product(%d, %d, %x, %x): %v; wanted %v", l.form, m, a, b, got, want)
				}
			}
		}
	}
}

// P12.2, by hand: the order counts, each product is rounded, and no flag is forgotten.
func TestProductByHand(t *testing.T) {
	for _, c := range []struct {
		m    api.Mode
		l    []api.Bits
		want answer
	}{
		{api.NearEven, halves(0x4000, 0x4000, 0x4200), half(0x4a00, 0)},
		{api.NearEven, halves(0x0001, 0x3800, 0x4000), half(0x0000, underflow)},
		{api.NearEven, halves(0x3800, 0x4000, 0x0001), half(0x0001, 0)},
		{api.Up, halves(0x0001, 0x3800, 0x4000), half(0x0002, underflow)},
		{api.NearEven, halves(0x7bff, 0x4000, 0x3800), half(0x7c00, overflow)},
		{api.ToZero, halves(0x7bff, 0x4000, 0x3800), half(0x77ff, overflow)},
		{api.NearEven, halves(0x7bff, 0x3800, 0x4000), half(0x7bff, 0)},
		{api.NearEven, halves(0x7bff, 0x7bff, 0x0000), half(0x7e00, overflow|api.Invalid)},
		{api.ToZero, halves(0x7bff, 0xfbff, 0x0000), half(0x8000, overflow)},
		{api.NearEven, halves(0x0001, 0x0001, 0x7c00), half(0x7e00, underflow|api.Invalid)},
		{api.NearEven, halves(0x7bff, 0x7bff, 0x3c01, 0x0001, 0xbc00), half(0xfc00, overflow)},
		{api.NearEven, halves(0xbc00, 0xbc00, 0xbc00), half(0xbc00, 0)},
		{api.NearEven, halves(0x8000, 0x8000, 0x8000), half(0x8000, 0)},
		{api.NearEven, halves(0x7c01, 0x3c00, 0x3c00), half(0x7e00, api.Invalid)},
		{api.NearEven, halves(0x3c00, 0x3c00, 0xfc01), half(0x7e00, api.Invalid)},
		{api.NearEven, halves(0xfe01, 0x3c00, 0x7e01), half(0x7e00, 0)},
	} {
		if got := of(Product(api.Half, c.m, c.l...)); got != c.want {
			t.Errorf("Product(Half, %d, %x): %v; wanted %v", c.m, c.l, got, c.want)
		}
	}
}

// P12.2: lists of all lengths up to some, and one long list.
func TestProductOfMany(t *testing.T) {
	eachForm(t, func(t *testing.T, l layout) {
		s := source(13 + l.w)
		for i := range 300 {
			list := []api.Bits{l.any(&s), l.any(&s)}
			for range i % 12 {
				list = append(list, l.at(s.below(2) == 0, new(big.Int).Add(power(l.p-1), s.bits(l.p-1)), s.below(7)-3))
			}
			kept := slices.Clone(list)
			for _, m := range modes {
				if got, want := of(Product(l.form, m, list...)), l.fold(m, list); got != want {
					t.Errorf("Product(%d, %d, %x): %v; wanted %v", l.form, m, list, got, want)
				}
			}
			if !slices.Equal(list, kept) {
				t.Errorf("Product changed %x to %x", kept, list)
			}
		}
	})
	long := make([]api.Bits, 1<<16)
	for i := range long {
		long[i] = api.Bits{Lo: 0x40000000 - uint64(i%2)<<24} // 2 and 1/2
	}
	if got := of(Product(api.Single, api.NearEven, long...)); got != half(0x3f800000, 0) {
		t.Errorf("Product of 2^15 twos and halves of Single: %v", got)
	}
}

// P12.3: a finite number times 1, by all modes and both ways round.
func TestTimesOne(t *testing.T) {
	for _, l := range layouts {
		s := source(3 + l.w)
		list := l.edges()
		for range 500 {
			list = append(list, l.any(&s))
		}
		one := l.bits(false, l.one())
		for _, a := range list {
			if _, i := l.split(a); i.Cmp(l.inf()) >= 0 {
				continue
			}
			for _, m := range modes {
				if got := of(Mul(l.form, m, a, one)); got != (answer{b: a}) {
					t.Errorf("Mul(%d, %d, %x, 1): %v", l.form, m, a, got)
				}
				if got := of(Mul(l.form, m, one, a)); got != (answer{b: a}) {
					t.Errorf("Mul(%d, %d, 1, %x): %v", l.form, m, a, got)
				}
			}
		}
	}
}

// power is an encoding of 2^k, which is a number of the format.
func (l layout) power(neg bool, k int) api.Bits {
	if k < l.emin() {
		return l.bits(neg, power(k-l.emin()+l.p-1))
	}
	return l.at(neg, power(l.p-1), k)
}

// P12.3: a normal number times a power of two, subnormal ones too, is the same significand at another exponent, as long as that is a normal number's.
func TestTimesPower(t *testing.T) {
	eachForm(t, func(t *testing.T, l layout) {
		s := source(4 + l.w)
		for i := range 4000 {
			sig := new(big.Int).Add(power(l.p-1), s.bits(l.p-1))
			top := s.below(l.emax-l.emin()+1) + l.emin()
			least := l.emin() - l.p + 1
			k := s.below(l.emax-least+1) + least
			if i%3 == 0 {
				k = max(min(l.emin()-top+s.below(3), l.emax), least)
			}
			if i%3 == 1 {
				k = max(min(l.emax-top-s.below(3), l.emax), least)
			}
			if top+k < l.emin() || top+k > l.emax {
				continue
			}
			m, neg, other := modes[s.below(5)], i%2 == 0, i%5 < 3
			want := answer{b: l.at(neg != other, sig, top+k)}
			a, b := l.at(neg, sig, top), l.power(other, k)
			if got := of(Mul(l.form, m, a, b)); got != want {
				t.Errorf("Mul(%d, %d, %x, %x): %v; wanted %v", l.form, m, a, b, got, want)
			}
		}
	})
}

// P12.3: the whole way from the least number to the greatest power of two, by twos, and back by halves, without a flag.
func TestAllPowers(t *testing.T) {
	for _, l := range layouts {
		b, two, half := l.bits(false, small(1)), l.power(false, 1), l.power(true, -1)
		for k := l.emin() - l.p + 2; k <= l.emax; k++ {
			got := of(Mul(l.form, modes[(k+2*l.emax)%5], b, two))
			if got != (answer{b: l.power(false, k)}) {
				t.Fatalf("2^%d of format %d: %v", k, l.form, got)
			}
			b = got.b
		}
		neg := false
		for k := l.emax - 1; k > l.emin()-l.p; k-- {
			neg = !neg
			got := of(Mul(l.form, modes[(k+2*l.emax)%5], b, half))
			if got != (answer{b: l.power(neg, k)}) {
				t.Fatalf("2^%d of format %d: %v", k, l.form, got)
			}
			b = got.b
		}
	}
}

var nothing = answer{e: api.ErrArg}

// calls are all calls with these arguments, lists of one and of none among them.
func calls(f api.Form, m api.Mode, a, b api.Bits) map[string]answer {
	return map[string]answer{
		"Mul": of(Mul(f, m, a, b)), "Product of 2": of(Product(f, m, a, b)), "Product of 3": of(Product(f, m, a, b, a)),
		"Product of 0": of(Product(f, m)), "Product of 1": of(Product(f, m, a)),
	}
}

// P12.1, P12.2: what is no format, and what is no mode, whatever is beside it.
func TestNoFormatNoMode(t *testing.T) {
	list := append(halves(0, 0x3c00, 0x7c00, 0x7c01, 0x7e00), api.Bits{Hi: 1 << 63, Lo: 1})
	for f := range 256 {
		for m := range 256 {
			if f < 4 && m < 5 {
				continue
			}
			a, b := list[(f+m)%len(list)], list[f%len(list)]
			for name, got := range calls(api.Form(f), api.Mode(m), a, b) {
				if got != nothing {
					t.Fatalf("%s (%d, %d, %x, %x): %v", name, f, m, a, b, got)
				}
			}
		}
	}
}

// P12.1, P12.2: bits that are no encoding, at each place above the width, on each side, beside whatever is there.
func TestNoEncoding(t *testing.T) {
	t.Parallel()
	for _, l := range layouts[:3] {
		edges := l.edges()
		for place := l.w; place < 128; place++ {
			for i, b := range edges {
				bad := b
				bad.Lo |= 1 << place
				if place >= 64 {
					bad.Hi |= 1 << (place - 64)
				}
				m, good := modes[i%5], edges[(i+place)%len(edges)]
				for name, got := range map[string]answer{
					"a": of(Mul(l.form, m, bad, good)), "b": of(Mul(l.form, m, good, bad)), "both": of(Mul(l.form, m, bad, bad)), "one": of(Product(l.form, m, bad)),
					"first": of(Product(l.form, m, bad, good, good)), "second": of(Product(l.form, m, good, bad, good)), "last": of(Product(l.form, m, good, good, bad)),
				} {
					if got != nothing {
						t.Fatalf("%s (%d, %d, %x, %x): %v", name, l.form, m, bad, good, got)
					}
				}
			}
		}
	}
}

// P12.2: what is no encoding behind products that raised flags leaves none of them.
func TestNoEncodingLast(t *testing.T) {
	if got := of(Product(api.Half, api.NearEven, halves(0x7bff, 0x7bff, 0x0000, 0x10000)...)); got != nothing {
		t.Errorf("Product of what overflows, and no encoding: %v", got)
	}
}

// P0.1: whatever is handed in, an encoding and flags that go together, or ErrArg and nothing; a second time the same.
func TestWhatever(t *testing.T) {
	s := source(78)
	for range 40000 {
		f, m := api.Form(s.below(5)), api.Mode(s.below(6))
		l := layouts[s.below(4)]
		a, b := l.any(&s), l.any(&s)
		got := of(Mul(f, m, a, b))
		if again := of(Mul(f, m, a, b)); again != got {
			t.Errorf("Mul(%d, %d, %x, %x): %v, then %v", f, m, a, b, got, again)
		}
		if f > 3 || m > 4 || !shape.Fits(f, a) || !shape.Fits(f, b) {
			if got != nothing {
				t.Errorf("Mul(%d, %d, %x, %x): %v; wanted ErrArg", f, m, a, b, got)
			}
			continue
		}
		switch got.flags {
		case 0, inexact, overflow, underflow, api.Invalid:
		default:
			t.Errorf("Mul(%d, %d, %x, %x): flags %d", f, m, a, b, got.flags)
		}
		if got.e != api.OK || !shape.Fits(f, got.b) {
			t.Errorf("Mul(%d, %d, %x, %x): %v", f, m, a, b, got)
		}
	}
}
