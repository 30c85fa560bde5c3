package sqrt

import (
	"math"
	"math/big"
	"sort"
	"strconv"
	"testing"

	"abacus/api"
	"abacus/exact"
	"abacus/kind"
	"abacus/mul"
	"abacus/rule"
	"abacus/shape"
)

const (
	inexact = api.Inexact
	invalid = api.Invalid
)

// check holds Sqrt of an encoding, by all modes, against what the model says.
func (l layout) check(t *testing.T, a api.Bits) {
	t.Helper()
	for m, want := range l.wants(a) {
		m := api.Mode(m)
		if got := of(Sqrt(l.form, m, a)); got != want {
			t.Errorf("Sqrt(%d, %d, %x): %v; wanted %v", l.form, m, a, got, want)
		}
	}
}

// eachForm runs a test on each format, all at the same time as one another and as other tests.
func eachForm(t *testing.T, test func(t *testing.T, l layout)) {
	t.Parallel()
	for _, l := range layouts {
		t.Run(strconv.Itoa(l.w), func(t *testing.T) {
			t.Parallel()
			test(t, l)
		})
	}
}

func half(bits uint64, flags api.Flags) answer { return answer{b: api.Bits{Lo: bits}, flags: flags} }

// The chapter's examples, and the whole document's.
func TestExamples(t *testing.T) {
	for _, c := range []struct {
		f    api.Form
		m    api.Mode
		a    uint64
		want answer
	}{
		{api.Half, api.NearEven, 0x4400, half(0x4000, 0)},
		{api.Half, api.NearEven, 0x4000, half(0x3da8, inexact)},
		{api.Half, api.Up, 0x4000, half(0x3da9, inexact)},
		{api.Half, api.NearEven, 0x8000, half(0x8000, 0)},
		{api.Half, api.NearEven, 0xbc00, half(0x7e00, invalid)},
		{api.Half, api.NearEven, 0xfc00, half(0x7e00, invalid)},
		{api.Half, api.NearEven, 0x7c00, half(0x7c00, 0)},
		{api.Half, api.NearEven, 0x0001, half(0x0c00, 0)},
		{api.Single, api.NearEven, 0x40000000, half(0x3fb504f3, inexact)},
	} {
		if got := of(Sqrt(c.f, c.m, api.Bits{Lo: c.a})); got != c.want {
			t.Errorf("Sqrt(%d, %d, %x): %v; wanted %v", c.f, c.m, c.a, got, c.want)
		}
	}
}

func same(x uint64) [5]uint64 { return [5]uint64{x, x, x, x, x} }

// byHand is an encoding of Half, and its roots by NearEven, ToZero, Down, Up, NearAway; the flags are the same by all of them.
type byHand struct {
	a     uint64
	want  [5]uint64
	flags api.Flags
}

func (c byHand) check(t *testing.T) {
	t.Helper()
	for m, want := range c.want {
		if got := of(Sqrt(api.Half, api.Mode(m), api.Bits{Lo: c.a})); got != half(want, c.flags) {
			t.Errorf("Sqrt(Half, %d, %x): %v; wanted %x, flags %d", m, c.a, got, want, c.flags)
		}
	}
}

// P14.1, by hand: each of its cases where nothing is calculated, at its ends.
func TestCases(t *testing.T) {
	for _, c := range []byHand{
		// A NaN, ahead of what is below 0: canonical whichever it was; Invalid of a signaling one alone.
		{0x7e00, same(0x7e00), 0},
		{0x7e01, same(0x7e00), 0},
		{0x7fff, same(0x7e00), 0},
		{0xfe00, same(0x7e00), 0},
		{0xfe01, same(0x7e00), 0},
		{0xffff, same(0x7e00), 0},
		{0x7c01, same(0x7e00), invalid},
		{0x7d00, same(0x7e00), invalid},
		{0x7dff, same(0x7e00), invalid},
		{0xfc01, same(0x7e00), invalid},
		{0xfdff, same(0x7e00), invalid},
		// Both zeros are their own roots, the one below 0 too.
		{0x0000, same(0x0000), 0},
		{0x8000, same(0x8000), 0},
		// Below 0, the infinity too.
		{0x8001, same(0x7e00), invalid},
		{0x83ff, same(0x7e00), invalid},
		{0x8400, same(0x7e00), invalid},
		{0xbc00, same(0x7e00), invalid},
		{0xc400, same(0x7e00), invalid},
		{0xfbff, same(0x7e00), invalid},
		{0xfc00, same(0x7e00), invalid},
		// The infinity above.
		{0x7c00, same(0x7c00), 0},
	} {
		c.check(t)
	}
}

// P14.1, by hand: roots that are exact, and such as are not; of normal and subnormal numbers with even and odd exponents.
func TestNumbers(t *testing.T) {
	for _, c := range []byHand{
		{0x3c00, same(0x3c00), 0},
		{0x3400, same(0x3800), 0},
		{0x4080, same(0x3e00), 0}, // 2.25
		{0x4880, same(0x4200), 0}, // 9
		{0x67e9, same(0x51a0), 0}, // 2025
		{0x7400, same(0x5800), 0}, // 2^14
		{0x0400, same(0x2000), 0}, // 2^-14
		{0x0001, same(0x0c00), 0}, // 2^-24
		{0x0004, same(0x1000), 0},
		{0x0009, same(0x1200), 0},
		{0x0100, same(0x1c00), 0},
		{0x4000, [5]uint64{0x3da8, 0x3da8, 0x3da8, 0x3da9, 0x3da8}, inexact},
		{0x4200, [5]uint64{0x3eee, 0x3eed, 0x3eed, 0x3eee, 0x3eee}, inexact},
		{0x3800, [5]uint64{0x39a8, 0x39a8, 0x39a8, 0x39a9, 0x39a8}, inexact},
		{0x0002, [5]uint64{0x0da8, 0x0da8, 0x0da8, 0x0da9, 0x0da8}, inexact},
		{0x0003, [5]uint64{0x0eee, 0x0eed, 0x0eed, 0x0eee, 0x0eee}, inexact},
		{0x03ff, [5]uint64{0x1fff, 0x1ffe, 0x1ffe, 0x1fff, 0x1fff}, inexact},
		{0x3c01, [5]uint64{0x3c00, 0x3c00, 0x3c00, 0x3c01, 0x3c00}, inexact}, // half a step above 1, and some less
		{0x3c02, [5]uint64{0x3c01, 0x3c00, 0x3c00, 0x3c01, 0x3c01}, inexact}, // one step above 1, and some less
		{0x3bff, [5]uint64{0x3bff, 0x3bff, 0x3bff, 0x3c00, 0x3bff}, inexact}, // half a step below 1, and some more
		{0x3bfe, [5]uint64{0x3bff, 0x3bfe, 0x3bfe, 0x3bff, 0x3bff}, inexact},
		{0x7800, [5]uint64{0x59a8, 0x59a8, 0x59a8, 0x59a9, 0x59a8}, inexact}, // 2^15
		{0x7bfe, [5]uint64{0x5bff, 0x5bfe, 0x5bfe, 0x5bff, 0x5bff}, inexact},
		{0x7bff, [5]uint64{0x5bff, 0x5bff, 0x5bff, 0x5c00, 0x5bff}, inexact}, // 65504
	} {
		c.check(t)
	}
}

// P14.1: the edges of a format.
func TestEdges(t *testing.T) {
	eachForm(t, func(t *testing.T, l layout) {
		for _, a := range l.edges() {
			l.check(t, a)
		}
	})
}

// P14.1: exponents all over a format, and subnormal numbers of each length.
func TestExponents(t *testing.T) {
	eachForm(t, func(t *testing.T, l layout) {
		s := source(4 + l.w)
		list := l.significands()
		for top := l.emin(); top <= l.emax; top += 1 + s.below(2+l.emax/200) {
			l.check(t, l.at(false, power(l.p-1), top))
			l.check(t, l.at(false, list[s.below(len(list))], top))
			l.check(t, l.at(false, new(big.Int).SetBit(s.bits(l.p), l.p-1, 1), top))
		}
		for n := range l.p - 1 {
			l.check(t, l.bits(false, power(n)))
			l.check(t, l.bits(false, beside(power(n+1), -1)))
			l.check(t, l.bits(false, new(big.Int).SetBit(s.bits(n+1), n, 1)))
		}
	})
}

// P14.1: outstanding significands, with even and odd exponents at both ends and in the middle.
func TestSignificands(t *testing.T) {
	eachForm(t, func(t *testing.T, l layout) {
		for _, x := range l.significands() {
			for _, top := range []int{l.emin(), l.emin() + 1, -l.p, -l.p - 1, -2, -1, 0, 1, 2, 3, l.p, l.p + 1, l.emax - 1, l.emax} {
				l.check(t, l.at(false, x, top))
				l.check(t, l.at(true, x, top))
			}
		}
	})
}

// oddRoot is the number of n bits whose square less d is a multiple of 2^(n+1), d being one more than a multiple of 8. Each step makes it so for one bit more; of the two numbers below 2^n for which it is so, one has the highest bit.
func oddRoot(d int64, n int) *big.Int {
	r := small(1)
	for i := 3; i <= n; i++ {
		if left := beside(squared(r), -d); left.Bit(i) == 1 {
			r.SetBit(r, i-1, 1)
		}
	}
	if r.Bit(n-1) == 0 {
		r.Sub(power(n), r)
	}
	return r
}

// P14.1: roots as near to a number of n bits as they come, on both sides of it: such as are near to a number of the format, and with one bit more near to the middle of two.
func TestNear(t *testing.T) {
	eachForm(t, func(t *testing.T, l layout) {
		s := source(6 + l.w)
		for i := range 1000 {
			n := l.p + i%2
			d := int64(8*(i/2-250) + 1)
			square := beside(squared(oddRoot(d, n)), -d)
			sig := new(big.Int).Rsh(square, uint(n+1))
			if raise(sig, n+1).Cmp(square) != 0 || sig.BitLen() > l.p {
				t.Fatalf("%d: %x is no multiple", d, square)
			}
			for range 3 {
				top := square.BitLen()%2 + 1 + 2*(s.below(l.emax-2)-l.emax/2)
				l.check(t, l.at(false, raise(sig, l.p-sig.BitLen()), top))
			}
		}
	})
}

// P14.1: numbers right beside squares, whose roots have half the bits: right beside a number, or right beside the middle of two, if the square is a power of two.
func TestBesideSquares(t *testing.T) {
	eachForm(t, func(t *testing.T, l layout) {
		s := source(7 + l.w)
		for range 1500 {
			x := l.shortRoot(&s).squared()
			i := l.place(x)
			for d := range int64(5) {
				if at := beside(i, d-2); at.Sign() > 0 {
					l.check(t, l.bits(false, at))
				}
			}
		}
	})
}

// P14.1: numbers right beside the squares of a format's numbers, and of the middles of two, which it does not have.
func TestBesideLongSquares(t *testing.T) {
	eachForm(t, func(t *testing.T, l layout) {
		s := source(8 + l.w)
		for i := range 1500 {
			sig := s.bits(l.p + i%2)
			x := number{sig.SetBit(sig, l.p-1+i%2, 1), -l.p - s.below(l.emax/2+1) + s.below(l.emax/2)}
			at := l.place(x.squared())
			if at.Sign() > 0 && at.Cmp(l.inf()) < 0 {
				l.check(t, l.bits(false, at))
				l.check(t, l.bits(false, beside(at, 1)))
			}
		}
	})
}

// P14.1: some of all encodings.
func TestAllOver(t *testing.T) {
	eachForm(t, func(t *testing.T, l layout) {
		s := source(11 + l.w)
		for range 6000 {
			l.check(t, l.any(&s))
		}
	})
}

// halfValue is what a finite encoding of Half without a sign is.
func halfValue(x uint64) float64 {
	field, fraction := int(x>>10), float64(x&1023)
	if field == 0 {
		return math.Ldexp(fraction, -24)
	}
	return math.Ldexp(fraction+1024, field-25)
}

// P14.1: all encodings of Half by all modes. The squares of its numbers, and of their middles, are exact as float64.
func TestAllHalf(t *testing.T) {
	t.Parallel()
	for a := range uint64(1 << 16) {
		want := byHand{a, same(0x7e00), invalid}
		switch {
		case a&0x7fff >= 0x7e00:
			want.flags = 0
		case a&0x7fff == 0 || a == 0x7c00:
			want.want, want.flags = same(a), 0
		case a < 0x7c00:
			want = halfRoot(a)
		}
		want.check(t)
	}
}

func halfRoot(a uint64) byHand {
	x := halfValue(a)
	above := uint64(sort.Search(0x7c00, func(i int) bool { y := halfValue(uint64(i)); return y*y > x }))
	low, high := halfValue(above-1), halfValue(above)
	middle := (low + high) / 2
	switch {
	case low*low == x:
		return byHand{a, same(above - 1), 0}
	case x > middle*middle:
		return byHand{a, [5]uint64{above, above - 1, above - 1, above, above}, inexact}
	}
	return byHand{a, [5]uint64{above - 1, above - 1, above - 1, above, above - 1}, inexact}
}

// P14.1: the language's own floats, of which two formats are, have the same roots. One of 53 bits, rounded to 24, is the root rounded once: no root of 24 bits is so near to a middle.
func TestOwnFloats(t *testing.T) {
	t.Parallel()
	for _, l := range layouts[1:3] {
		s := source(64 + l.w)
		for range 60000 {
			a := l.any(&s)
			got := of(Sqrt(l.form, api.NearEven, a))
			want, nan := l.ownRoot(a)
			if nan {
				want = l.nan().Lo
			}
			if got.b != (api.Bits{Lo: want}) || got.e != api.OK {
				t.Errorf("Sqrt(%d, NearEven, %x): %v; the float is %x", l.form, a, got, want)
			}
		}
	}
}

// ownRoot is the float's bits, and whether it is a NaN.
func (l layout) ownRoot(a api.Bits) (uint64, bool) {
	if l.form == api.Single {
		x := float32(math.Sqrt(float64(math.Float32frombits(uint32(a.Lo)))))
		return uint64(math.Float32bits(x)), x != x
	}
	x := math.Sqrt(math.Float64frombits(a.Lo))
	return math.Float64bits(x), x != x
}

// P14.1: of numbers above 0 it is the rule's Root of the exact value.
func TestRule(t *testing.T) {
	eachForm(t, func(t *testing.T, l layout) {
		s := source(9 + l.w)
		for i := range 1500 {
			a := l.any(&s)
			x, e := kind.Value(l.form, a)
			if e != api.OK || exact.Sign(x) <= 0 {
				continue
			}
			m := modes[i%5]
			if got, want := of(Sqrt(l.form, m, a)), of(rule.Root(l.form, m, x)); got != want {
				t.Errorf("Sqrt(%d, %d, %x): %v; the rule's %v", l.form, m, a, got, want)
			}
		}
	})
}

// wantInside asks that the root of a number above 0 is a normal number, and that nothing but Inexact is raised.
func (l layout) wantInside(t *testing.T, a api.Bits) {
	t.Helper()
	for _, m := range modes {
		got := of(Sqrt(l.form, m, a))
		neg, i := l.split(got.b)
		if neg || i.Cmp(power(l.p-1)) < 0 || i.Cmp(l.inf()) >= 0 || got.flags&^inexact != 0 || got.e != api.OK {
			t.Errorf("Sqrt(%d, %d, %x): %v", l.form, m, a, got)
		}
	}
}

// P14.2: it never over- or underflows: at both ends of a format, and all over it.
func TestInside(t *testing.T) {
	eachForm(t, func(t *testing.T, l layout) {
		for d := range int64(1000) {
			l.wantInside(t, l.bits(false, small(d+1)))
			l.wantInside(t, l.bits(false, beside(l.inf(), -d-1)))
			l.wantInside(t, l.bits(false, beside(power(l.p-1), d-500)))
		}
		s := source(12 + l.w)
		for range 4000 {
			a := l.any(&s)
			if neg, i := l.split(a); !neg && i.Sign() > 0 && i.Cmp(l.inf()) < 0 {
				l.wantInside(t, a)
			}
		}
	})
}

// shortRoot is some number whose square is one of the format: the bits are at most half of what it has, and the place is such that the square, which may be subnormal, keeps them all.
func (l layout) shortRoot(s *source) number {
	for {
		n := beside(s.bits(1+s.below((l.p+1)/2)), 1)
		square := squared(n)
		low := (l.least() + 1) >> 1
		high := (l.emax + 1 - square.BitLen()) >> 1
		if square.BitLen() <= l.p {
			return number{n, low + s.below(high-low+1)}
		}
	}
}

// wantMagnitude asks that the root of square, by all modes, is want without flags.
func (l layout) wantMagnitude(t *testing.T, square, want api.Bits) {
	t.Helper()
	for _, m := range modes {
		if got := of(Sqrt(l.form, m, square)); got != (answer{b: want}) {
			t.Errorf("Sqrt(%d, %d, %x): %v; wanted %x without flags", l.form, m, square, got, want)
		}
	}
}

// P14.2: squares that are exact, normal and subnormal.
func TestSquares(t *testing.T) {
	eachForm(t, func(t *testing.T, l layout) {
		s := source(13 + l.w)
		for range 3000 {
			x := l.shortRoot(&s)
			square := l.place(x.squared())
			if l.value(square).cmp(x.squared()) != 0 {
				t.Fatalf("%v squared is not of the format", x)
			}
			l.wantMagnitude(t, l.bits(false, square), l.bits(false, l.place(x)))
		}
	})
}

// isSquare asks that the root of a times itself is a without its sign, and tells whether that product is exact.
func (l layout) isSquare(t *testing.T, a api.Bits) bool {
	t.Helper()
	square, flags, _ := mul.Mul(l.form, api.NearEven, a, a)
	if flags != 0 {
		return false
	}
	_, i := l.split(a)
	l.wantMagnitude(t, square, l.bits(false, i))
	return true
}

// P14.2: numbers of both signs times themselves.
func TestProducts(t *testing.T) {
	eachForm(t, func(t *testing.T, l layout) {
		s := source(14 + l.w)
		for n := range 3000 {
			if a := l.bits(n%2 == 0, l.place(l.shortRoot(&s))); !l.isSquare(t, a) {
				t.Errorf("%x times itself is not exact", a)
			}
		}
	})
}

// P14.2: all finite numbers of Half whose squares are exact, of both signs; there are 754 of them, both zeros among them.
func TestAllHalfProducts(t *testing.T) {
	t.Parallel()
	found := 0
	for n := range uint64(1 << 16) {
		if n&0x7fff < 0x7c00 && layouts[0].isSquare(t, api.Bits{Lo: n}) {
			found++
		}
	}
	if found != 754 {
		t.Errorf("%d squares are exact", found)
	}
}

var nothing = answer{e: api.ErrArg}

// P14.1: what is no format, and what is no mode, whatever is beside it.
func TestNoFormatNoMode(t *testing.T) {
	list := []api.Bits{{}, {Lo: 0x8000}, {Lo: 0x3c00}, {Lo: 0x7c00}, {Lo: 0xbc00}, {Lo: 0x7c01}, {Lo: 0x7e00}, {Hi: 1 << 63, Lo: 1}}
	for f := range 256 {
		for m := range 256 {
			if f < 4 && m < 5 {
				continue
			}
			for _, a := range list {
				if got := of(Sqrt(api.Form(f), api.Mode(m), a)); got != nothing {
					t.Fatalf("Sqrt(%d, %d, %x): %v", f, m, a, got)
				}
			}
		}
	}
}

// P14.1: bits that are no encoding, at each place above the width, whatever the others are.
func TestNoEncoding(t *testing.T) {
	t.Parallel()
	for _, l := range layouts[:3] {
		for place := l.w; place < 128; place++ {
			for i, bad := range l.edges() {
				if place < 64 {
					bad.Lo |= 1 << place
				} else {
					bad.Hi |= 1 << (place - 64)
				}
				if got := of(Sqrt(l.form, modes[i%5], bad)); got != nothing {
					t.Fatalf("Sqrt(%d, %d, %x): %v", l.form, modes[i%5], bad, got)
				}
			}
		}
	}
}

// P0.1: whatever is handed in, an encoding and flags that go together, or ErrArg and nothing; a second time the same.
func TestWhatever(t *testing.T) {
	s := source(78)
	for range 40000 {
		f, m := api.Form(s.below(5)), api.Mode(s.below(6))
		a := layouts[s.below(4)].any(&s)
		got := of(Sqrt(f, m, a))
		if again := of(Sqrt(f, m, a)); again != got {
			t.Errorf("Sqrt(%d, %d, %x): %v, then %v", f, m, a, got, again)
		}
		if f > 3 || m > 4 || !shape.Fits(f, a) {
			if got != nothing {
				t.Errorf("Sqrt(%d, %d, %x): %v; wanted ErrArg", f, m, a, got)
			}
			continue
		}
		if got.flags != 0 && got.flags != inexact && got.flags != invalid || got.e != api.OK || !shape.Fits(f, got.b) {
			t.Errorf("Sqrt(%d, %d, %x): %v", f, m, a, got)
		}
	}
}
