package round

import (
	"math"
	"math/big"
	"strconv"
	"testing"

	"abacus/api"
	"abacus/exact"
	"abacus/rule"
	"abacus/shape"
)

const (
	inexact   = api.Inexact
	overflow  = api.Overflow | api.Inexact
	underflow = api.Underflow | api.Inexact
)

// wide0 is the Sig of a number of at most 384 bits.
func wide0(n *big.Int) api.Wide { return rough(magnitude{n, 0}).Sig }

// check holds Pack of x, by all modes and of both signs, against what is delivered of what it stands for.
func (l layout) check(t *testing.T, x magnitude, more bool) {
	t.Helper()
	for _, y := range standsFor(x, more) {
		s := l.spot(y)
		for _, m := range modes {
			for _, neg := range signs {
				r := rough(x)
				r.Neg, r.More = neg, more
				if got, want := of(Pack(l.form, m, r)), s.want(m, neg); got != want {
					t.Errorf("Pack(%d, %d, %v, Neg %v, More %v): %v; wanted %v of %v", l.form, m, x, neg, more, got, want, y)
				}
			}
		}
	}
}

func standsFor(x magnitude, more bool) []magnitude {
	if more {
		return within(x)
	}
	return []magnitude{x}
}

// checkBoth is check of x as it is, and, where it may be, More.
func (l layout) checkBoth(t *testing.T, x magnitude) {
	t.Helper()
	l.check(t, x, false)
	if x.n.BitLen() >= l.p+2 {
		l.check(t, x, true)
	}
}

// The chapter's examples.
func TestExamples(t *testing.T) {
	half := func(bits uint64, flags api.Flags) answer { return answer{b: api.Bits{Lo: bits}, flags: flags} }
	for _, c := range []struct {
		m    api.Mode
		x    api.Rough
		want answer
	}{
		{api.NearEven, api.Rough{Sig: api.Wide{4095}}, half(0x6c00, inexact)},
		{api.ToZero, api.Rough{Sig: api.Wide{4095}}, half(0x6bff, inexact)},
		{api.Up, api.Rough{Sig: api.Wide{4096}, More: true}, half(0x6c01, inexact)},
		{api.Up, api.Rough{Sig: api.Wide{4095}, More: true}, answer{e: api.ErrArg}},
		{api.Down, api.Rough{Neg: true}, half(0x8000, 0)},
		{api.NearEven, api.Rough{Sig: api.Wide{1}, Exp: 16}, half(0x7c00, overflow)},
	} {
		if got := of(Pack(api.Half, c.m, c.x)); got != c.want {
			t.Errorf("Pack(Half, %d, %v): %v; wanted %v", c.m, c.x, got, c.want)
		}
	}
	if got := of(Over(api.Half, api.Down, false)); got != half(0x7bff, overflow) {
		t.Errorf("Over(Half, Down, false): %v", got)
	}
	if !Up(api.NearEven, false, true, 0, false) || !Up(api.NearAway, true, false, 0, false) {
		t.Error("Up by NearEven of an odd one, by NearAway, at half: false")
	}
}

// P10.1, by hand: ordinary numbers, and the edges of Half where flags change.
func TestPackByHand(t *testing.T) {
	for _, c := range []struct {
		m     api.Mode
		x     api.Rough
		bits  uint64
		flags api.Flags
	}{
		{api.NearEven, api.Rough{Sig: api.Wide{1}}, 0x3c00, 0},
		{api.Up, api.Rough{Neg: true, Sig: api.Wide{5}, Exp: -1}, 0xc100, 0},
		{api.NearEven, api.Rough{Sig: api.Wide{2049}}, 0x6800, inexact},
		{api.NearEven, api.Rough{Sig: api.Wide{2051}}, 0x6802, inexact},
		{api.NearAway, api.Rough{Sig: api.Wide{2049}}, 0x6801, inexact},
		{api.NearEven, api.Rough{Sig: api.Wide{65504}}, 0x7bff, 0},
		{api.NearEven, api.Rough{Sig: api.Wide{65519}}, 0x7bff, inexact},
		{api.NearEven, api.Rough{Sig: api.Wide{65520}}, 0x7c00, overflow},
		{api.ToZero, api.Rough{Sig: api.Wide{65535}}, 0x7bff, inexact},
		{api.ToZero, api.Rough{Sig: api.Wide{65536}}, 0x7bff, overflow},
		{api.Up, api.Rough{Sig: api.Wide{65505}}, 0x7c00, overflow},
		{api.Up, api.Rough{Neg: true, Sig: api.Wide{65536}}, 0xfbff, overflow},
		{api.Down, api.Rough{Neg: true, Sig: api.Wide{65505}}, 0xfc00, overflow},
		{api.NearEven, api.Rough{Sig: api.Wide{1}, Exp: -24}, 0x0001, 0},
		{api.NearEven, api.Rough{Sig: api.Wide{1}, Exp: -25}, 0x0000, underflow},
		{api.NearEven, api.Rough{Neg: true, Sig: api.Wide{1}, Exp: -25}, 0x8000, underflow},
		{api.NearAway, api.Rough{Sig: api.Wide{1}, Exp: -25}, 0x0001, underflow},
		{api.NearEven, api.Rough{Sig: api.Wide{3}, Exp: -26}, 0x0001, underflow},
		{api.Up, api.Rough{Sig: api.Wide{1}, Exp: -api.MaxExp}, 0x0001, underflow},
		{api.Down, api.Rough{Neg: true, Sig: api.Wide{1}, Exp: -api.MaxExp}, 0x8001, underflow},
		{api.NearEven, api.Rough{Sig: api.Wide{1023}, Exp: -24}, 0x03ff, 0},
		{api.NearEven, api.Rough{Sig: api.Wide{1024}, Exp: -24}, 0x0400, 0},
		// 2^-14 less 2^-26 comes to 2^-14 on a grid without a least exponent too: it is not tiny; less 2^-25 it is, and less 3 times 2^-27 by NearAway.
		{api.NearEven, api.Rough{Sig: api.Wide{1<<12 - 1}, Exp: -26}, 0x0400, inexact},
		{api.NearEven, api.Rough{Sig: api.Wide{1<<11 - 1}, Exp: -25}, 0x0400, underflow},
		{api.NearAway, api.Rough{Sig: api.Wide{1<<13 - 3}, Exp: -27}, 0x0400, underflow},
		{api.Up, api.Rough{Sig: api.Wide{1<<11 - 1}, Exp: -25}, 0x0400, underflow},
		{api.Up, api.Rough{Sig: api.Wide{1<<12 - 1}, Exp: -26}, 0x0400, inexact},
		{api.ToZero, api.Rough{Sig: api.Wide{1<<12 - 1}, Exp: -26}, 0x03ff, underflow},
		{api.ToZero, api.Rough{Sig: api.Wide{8191}, Exp: -27, More: true}, 0x03ff, underflow},
		{api.NearEven, api.Rough{Sig: api.Wide{8191}, Exp: -27, More: true}, 0x0400, inexact},
		// Halves with something more are no halves.
		{api.NearEven, api.Rough{Sig: api.Wide{4098}, More: true}, 0x6c01, inexact},
		{api.NearEven, api.Rough{Sig: api.Wide{4098}}, 0x6c00, inexact},
		{api.NearEven, api.Rough{Sig: api.Wide{4097}, More: true}, 0x6c00, inexact},
		{api.ToZero, api.Rough{Sig: api.Wide{4096}, More: true}, 0x6c00, inexact},
	} {
		want := answer{b: api.Bits{Lo: c.bits}, flags: c.flags}
		if got := of(Pack(api.Half, c.m, c.x)); got != want {
			t.Errorf("Pack(Half, %d, %v): %v; wanted %v", c.m, c.x, got, want)
		}
	}
}

// P10.1: at the edges of each format.
func TestPackAgainstDefinition(t *testing.T) {
	for _, l := range layouts {
		t.Run(strconv.Itoa(l.w), func(t *testing.T) {
			t.Parallel()
			for _, x := range l.numbers() {
				l.checkBoth(t, x)
			}
		})
	}
}

// P10.1: from all encodings of Half, by quarters of the way to the next one, with and without something more.
func TestPackAllHalf(t *testing.T) {
	t.Parallel()
	l := layouts[0]
	for i := range l.inf().Int64() {
		n, e := l.value(small(i))
		for k := range int64(4) {
			x := magnitude{add(raise(n, 2), k), e - 2}
			if x.n.Sign() == 0 {
				continue
			}
			l.checkQuarter(t, i, k, x, false)
			if x.n.BitLen() >= l.p+2 {
				l.checkQuarter(t, i, k, x, true)
			}
		}
	}
}

// checkQuarter is check of what stands k quarters of the way, or More, from the encoding i to the next one: so no search is wanted.
func (l layout) checkQuarter(t *testing.T, i, k int64, x magnitude, more bool) {
	t.Helper()
	y := x
	half := int(k) - 2
	if more {
		y = magnitude{add(raise(x.n, 1), 1), x.e - 1}
		half = 2*half + 1
	}
	s := spot{l, y, small(i), k == 0 && !more, half}
	for _, m := range modes {
		neg := (i+k+int64(m))%2 == 0
		r := rough(x)
		r.Neg, r.More = neg, more
		if got, want := of(Pack(l.form, m, r)), s.want(m, neg); got != want {
			t.Errorf("Pack(Half, %d, %v, Neg %v, More %v): %v; wanted %v", m, x, neg, more, got, want)
		}
	}
}

// P10.1: numbers of all lengths, at Exps all over the reach of the formats and beyond it.
func TestPackAllOver(t *testing.T) {
	t.Parallel()
	s := source(10)
	for i := range 6000 {
		l := layouts[i%4]
		n := add(s.bits(s.below(384)), 1)
		l.checkBoth(t, magnitude{n, s.below(2*l.emax+600) - l.emax - 500})
	}
}

// P10.1: of each length, with the highest bit alone, with all bits, and with both ends alone.
func TestPackAllLengths(t *testing.T) {
	for _, l := range layouts {
		t.Run(strconv.Itoa(l.w), func(t *testing.T) {
			t.Parallel()
			for n := range 384 {
				l.checkLength(t, n)
			}
		})
	}
}

// checkLength is check of numbers of n + 1 bits: whole ones, and such as have their highest bit at the least normal number's place, right below that, at the least number's, one and two below that, and at the greatest exponent.
func (l layout) checkLength(t *testing.T, n int) {
	t.Helper()
	least := l.emin() - l.p + 1
	for i, top := range []int{n, l.emin(), l.emin() - 1, least, least - 1, least - 2, l.emax} {
		one := power(n)
		list := []*big.Int{one, add(raise(one, 1), -1), add(one, min(int64(n), 1))}
		l.checkBoth(t, magnitude{list[(n+i)%3], top - n})
	}
}

// P10.1: the greatest and the least Exps that may be, and such as leave of 384 bits a half or less.
func TestFarExps(t *testing.T) {
	all := add(power(384), -1)
	for _, l := range layouts {
		least := l.emin() - l.p + 1
		for _, n := range []*big.Int{small(1), small(3), power(200), power(383), add(power(383), 1), add(power(383), -1), all} {
			for _, e := range []int{api.MaxExp, api.MaxExp - 1, -api.MaxExp, 1 - api.MaxExp} {
				l.checkBoth(t, magnitude{n, e})
			}
			for d := range 6 {
				l.checkBoth(t, magnitude{n, least - 382 - d})
			}
		}
	}
}

// P10.1: of 0 the zero of that sign, at all Exps that may be; More than 0 may not be.
func TestPackZero(t *testing.T) {
	for _, l := range layouts {
		for _, m := range modes {
			for _, neg := range signs {
				for _, e := range []int{0, 1, -1, 1000, -1000, api.MaxExp, -api.MaxExp} {
					want := answer{b: l.bits(neg, small(0))}
					if got := of(Pack(l.form, m, api.Rough{Neg: neg, Exp: e})); got != want {
						t.Errorf("Pack(%d, %d, 0, Neg %v, Exp %d): %v; wanted %v", l.form, m, neg, e, got, want)
					}
					if got := of(Pack(l.form, m, api.Rough{Neg: neg, Exp: e, More: true})); got != (answer{e: api.ErrArg}) {
						t.Errorf("Pack(%d, %d, 0 More, Neg %v, Exp %d): %v", l.form, m, neg, e, got)
					}
				}
			}
		}
	}
}

// P10.1: what is More has p + 2 bits at least; at one less it may not be, and without More it may.
func TestPackMoreBits(t *testing.T) {
	for _, l := range layouts {
		for bits := range 385 {
			if bits == 0 {
				continue
			}
			for _, n := range []*big.Int{power(bits - 1), add(power(bits), -1)} {
				x := api.Rough{Sig: wide0(n), Exp: 3 - bits, More: true}
				want := api.OK
				if bits < l.p+2 {
					want = api.ErrArg
				}
				got := of(Pack(l.form, modes[bits%5], x))
				if got.e != want || want != api.OK && got != (answer{e: want}) {
					t.Errorf("Pack(%d, .., %x More): %v; wanted %v", l.form, n, got, want)
				}
				x.More = false
				if _, _, e := Pack(l.form, modes[bits%5], x); e != api.OK {
					t.Errorf("Pack(%d, .., %x): %v", l.form, n, e)
				}
			}
		}
	}
}

// P10.1: Exps that may not be, of 0 too.
func TestPackNoExp(t *testing.T) {
	for _, l := range layouts {
		for _, m := range modes {
			for _, e := range []int{api.MaxExp + 1, -api.MaxExp - 1, 2 * api.MaxExp, -2 * api.MaxExp, math.MaxInt, math.MinInt, math.MaxInt - 384, math.MinInt + 384, 1 << 32, -1 << 32} {
				for _, x := range []api.Rough{{}, {Sig: api.Wide{1}}, {Neg: true, Sig: api.Wide{5: 1 << 63}}, {Sig: api.Wide{5: 1}, More: true}} {
					x.Exp = e
					if got := of(Pack(l.form, m, x)); got != (answer{e: api.ErrArg}) {
						t.Errorf("Pack(%d, %d, %v): %v", l.form, m, x, got)
					}
				}
			}
		}
	}
}

// P10.1, P10.2: what is no format, and what is no mode, whatever is beside it.
func TestNoFormatNoMode(t *testing.T) {
	for f := range 256 {
		for m := range 256 {
			if f < 4 && m < 5 {
				continue
			}
			f, m := api.Form(f), api.Mode(m)
			for _, x := range []api.Rough{{}, {Sig: api.Wide{1}}, {Neg: true, Sig: api.Wide{1}, Exp: api.MaxExp}, {Sig: api.Wide{5: 1}, More: true}} {
				if got := of(Pack(f, m, x)); got != (answer{e: api.ErrArg}) {
					t.Fatalf("Pack(%d, %d, %v): %v", f, m, x, got)
				}
			}
			for _, neg := range signs {
				if got := of(Over(f, m, neg)); got != (answer{e: api.ErrArg}) {
					t.Fatalf("Over(%d, %d, %v): %v", f, m, neg, got)
				}
			}
		}
	}
}

// P10.2: all of Over.
func TestOver(t *testing.T) {
	inf := map[api.Form]api.Bits{api.Half: {Lo: 0x7c00}, api.Single: {Lo: 0x7f800000}, api.Double: {Lo: 0x7ff0 << 48}, api.Quad: {Hi: 0x7fff << 48}}
	most := map[api.Form]api.Bits{api.Half: {Lo: 0x7bff}, api.Single: {Lo: 0x7f7fffff}, api.Double: {Lo: 0x7fefffffffffffff}, api.Quad: {Hi: 0x7ffeffffffffffff, Lo: math.MaxUint64}}
	finite := map[api.Mode][2]bool{api.NearEven: {}, api.ToZero: {true, true}, api.Down: {true, false}, api.Up: {false, true}, api.NearAway: {}}
	for _, l := range layouts {
		for _, m := range modes {
			for i, neg := range signs {
				want := inf[l.form]
				if finite[m][i] {
					want = most[l.form]
				}
				sign := l.bits(neg, small(0))
				want.Hi += sign.Hi
				want.Lo += sign.Lo
				if got := of(Over(l.form, m, neg)); got != (answer{b: want, flags: overflow}) {
					t.Errorf("Over(%d, %d, %v): %v; wanted %x", l.form, m, neg, got, want)
				}
			}
		}
	}
}

// P10.3: all of Up, with halves of all sizes.
func TestUp(t *testing.T) {
	halves := []int{math.MinInt, -2, -1, 0, 1, 2, math.MaxInt}
	for m := range 256 {
		for _, neg := range signs {
			for _, odd := range signs {
				for _, half := range halves {
					want := m < 5 && goesUp(api.Mode(m), neg, odd, half)
					if got := Up(api.Mode(m), neg, odd, half, false); got != want {
						t.Errorf("Up(%d, %v, %v, %d, false): %v", m, neg, odd, half, got)
					}
					if Up(api.Mode(m), neg, odd, half, true) {
						t.Errorf("Up(%d, %v, %v, %d, true): true", m, neg, odd, half)
					}
				}
			}
		}
	}
}

// P10.3, by hand: what each mode says of less than half, half and more than half.
func TestUpByHand(t *testing.T) {
	type line struct {
		m        api.Mode
		neg, odd bool
		want     [3]bool
	}
	for _, c := range []line{
		{api.NearEven, false, false, [3]bool{false, false, true}},
		{api.NearEven, true, true, [3]bool{false, true, true}},
		{api.NearAway, false, false, [3]bool{false, true, true}},
		{api.NearAway, true, true, [3]bool{false, true, true}},
		{api.ToZero, false, true, [3]bool{}},
		{api.ToZero, true, false, [3]bool{}},
		{api.Down, false, true, [3]bool{}},
		{api.Down, true, false, [3]bool{true, true, true}},
		{api.Up, false, false, [3]bool{true, true, true}},
		{api.Up, true, true, [3]bool{}},
		{5, false, true, [3]bool{}},
		{6, true, true, [3]bool{}},
		{api.Dyn, false, true, [3]bool{}},
	} {
		for i, want := range c.want {
			if got := Up(c.m, c.neg, c.odd, i-1, false); got != want {
				t.Errorf("Up(%d, %v, %v, %d, false): %v", c.m, c.neg, c.odd, i-1, got)
			}
		}
	}
}

// ratio is num over den times 2^exp as an exact number; false, if it may not be.
func ratio(neg bool, num, den *big.Int, exp int) (api.Exact, bool) {
	x, e := exact.Make(neg, api.Nat(num.Bytes()), api.Nat(den.Bytes()), exp)
	return x, e == api.OK
}

// ratios are exact numbers for which x stands: of what is More also such as end nowhere in binary digits.
func ratios(x magnitude, neg, more bool) []api.Exact {
	var list []api.Exact
	add1 := func(num, den *big.Int, exp int) {
		if r, ok := ratio(neg, num, den, exp); ok {
			list = append(list, r)
		}
	}
	for _, y := range standsFor(x, more) {
		add1(y.n, small(1), y.e)
	}
	if more {
		thrice := new(big.Int).Mul(x.n, small(3))
		add1(add(thrice, 1), small(3), x.e)
		add1(add(thrice, 2), small(3), x.e)
		long := new(big.Int).Mul(x.n, add(power(400), -1))
		add1(add(long, 1), add(power(400), -1), x.e)
	}
	return list
}

// P10.4: Pack is the rule's Round, of each number for which it stands.
func TestRule(t *testing.T) {
	t.Parallel()
	for _, l := range layouts {
		for i, x := range l.numbers() {
			for _, more := range signs {
				if i%5 != 0 || more && x.n.BitLen() < l.p+2 {
					continue
				}
				neg := i/5%2 == 0
				r := rough(x)
				r.Neg, r.More = neg, more
				list := ratios(x, neg, more)
				if len(list) == 0 {
					t.Fatalf("no exact number for %v", x)
				}
				for _, m := range modes {
					got := of(Pack(l.form, m, r))
					for _, y := range list {
						if want := of(rule.Round(l.form, m, y)); got != want {
							t.Errorf("Pack(%d, %d, %v, Neg %v, More %v): %v; the rule's %v", l.form, m, x, neg, more, got, want)
						}
					}
				}
			}
		}
	}
}

// P10.4: of 0 it is the rule's but for the sign; at the Exps' ends too.
func TestRuleEnds(t *testing.T) {
	for _, l := range layouts {
		for _, m := range modes {
			want := of(rule.Round(l.form, m, exact.Whole(0)))
			if got := of(Pack(l.form, m, api.Rough{})); got != want {
				t.Errorf("Pack(%d, %d, 0): %v; the rule's %v", l.form, m, got, want)
			}
			for _, neg := range signs {
				for _, e := range []int{api.MaxExp, -api.MaxExp} {
					x, ok := ratio(neg, small(5), small(1), e)
					if !ok {
						t.Fatalf("5 at %d may not be", e)
					}
					want := of(rule.Round(l.form, m, x))
					if got := of(Pack(l.form, m, api.Rough{Neg: neg, Sig: api.Wide{5}, Exp: e})); got != want {
						t.Errorf("Pack(%d, %d, 5 at %d, Neg %v): %v; the rule's %v", l.form, m, e, neg, got, want)
					}
				}
			}
		}
	}
}

// P10.5: Sig doubled again and again, with Exp one less each time, as far as it may be; what is More may have the lowest bit set then, for it stands for some of the same numbers.
func TestDoubled(t *testing.T) {
	t.Parallel()
	for _, l := range layouts {
		for i, x := range l.numbers() {
			if i%11 != 0 {
				continue
			}
			for _, more := range signs {
				if more && x.n.BitLen() < l.p+2 {
					continue
				}
				for _, m := range modes {
					l.checkDoubled(t, m, x, i%2 == 0, more)
				}
			}
		}
	}
}

func (l layout) checkDoubled(t *testing.T, m api.Mode, x magnitude, neg, more bool) {
	t.Helper()
	r := rough(x)
	r.Neg, r.More = neg, more
	want := of(Pack(l.form, m, r))
	for k := 1; x.n.BitLen()+k <= 384; k += 1 + k/9 {
		r.Sig, r.Exp = wide0(raise(x.n, k)), x.e-k
		if got := of(Pack(l.form, m, r)); got != want {
			t.Errorf("Pack(%d, %d, %v, Neg %v, More %v), doubled %d times: %v; wanted %v", l.form, m, x, neg, more, k, got, want)
		}
		if more {
			r.Sig[0]++
			if got := of(Pack(l.form, m, r)); got != want {
				t.Errorf("Pack(%d, %d, %v, Neg %v, More), doubled %d times and 1: %v; wanted %v", l.form, m, x, neg, k, got, want)
			}
		}
	}
}

// P10.5: at the least Exp the doubled one may not be, one above it may.
func TestDoubledAtLeastExp(t *testing.T) {
	for _, l := range layouts {
		for _, m := range modes {
			x := api.Rough{Sig: api.Wide{3}, Exp: 1 - api.MaxExp}
			want := of(Pack(l.form, m, x))
			x = api.Rough{Sig: api.Wide{6}, Exp: -api.MaxExp}
			if got := of(Pack(l.form, m, x)); got != want || got.e != api.OK {
				t.Errorf("Pack(%d, %d, 6 at the least Exp): %v; wanted %v", l.form, m, got, want)
			}
			x = api.Rough{Sig: api.Wide{12}, Exp: -api.MaxExp - 1}
			if got := of(Pack(l.form, m, x)); got != (answer{e: api.ErrArg}) {
				t.Errorf("Pack(%d, %d, 12 below the least Exp): %v", l.form, m, got)
			}
		}
	}
}

// P10.1, P10.4: the language's own floats, of which two formats are, are rounded alike.
func TestOwnFloats(t *testing.T) {
	for _, l := range layouts[1:3] {
		for i, x := range l.numbers() {
			neg := i%2 == 0
			n := new(big.Float).SetMantExp(new(big.Float).SetInt(x.n), x.e)
			if neg {
				n.Neg(n)
			}
			var bits uint64
			var accuracy big.Accuracy
			if l.form == api.Single {
				f, a := n.Float32()
				bits, accuracy = uint64(math.Float32bits(f)), a
			} else {
				f, a := n.Float64()
				bits, accuracy = math.Float64bits(f), a
			}
			r := rough(x)
			r.Neg = neg
			b, flags, e := Pack(l.form, api.NearEven, r)
			if b != (api.Bits{Lo: bits}) || flags&api.Inexact != 0 != (accuracy != big.Exact) || e != api.OK {
				t.Errorf("Pack(%d, NearEven, %v, Neg %v): %x, flags %d, %v; the float is %x, %v", l.form, x, neg, b, flags, e, bits, accuracy)
			}
		}
	}
}

// may tells by the chapter's words whether Pack takes these.
func may(f api.Form, m api.Mode, x api.Rough, bits int) bool {
	for _, l := range layouts {
		if l.form == f {
			return m <= api.NearAway && -1<<20 <= x.Exp && x.Exp <= 1<<20 && (!x.More || bits >= l.p+2)
		}
	}
	return false
}

// P0.1: whatever is handed in, Pack answers an encoding and flags that go together, or ErrArg and nothing; a second time the same.
func TestWhatever(t *testing.T) {
	s := source(77)
	exps := []int{math.MinInt, math.MaxInt, api.MaxExp, api.MaxExp + 1, -api.MaxExp, -api.MaxExp - 1}
	for i := range 40000 {
		f, m := api.Form(s.below(5)), api.Mode(s.below(6))
		n := s.bits(s.below(385))
		x := api.Rough{Neg: s.below(2) == 0, Sig: wide0(n), Exp: s.below(40000) - 20000, More: s.below(2) == 0}
		if i%4 == 0 {
			x.Exp = exps[s.below(len(exps))]
		}
		got := of(Pack(f, m, x))
		if !may(f, m, x, n.BitLen()) {
			if got != (answer{e: api.ErrArg}) {
				t.Errorf("Pack(%d, %d, %v): %v; wanted ErrArg", f, m, x, got)
			}
			continue
		}
		switch got.flags {
		case 0, inexact, underflow, overflow:
		default:
			t.Errorf("Pack(%d, %d, %v): flags %d", f, m, x, got.flags)
		}
		if got.e != api.OK || !shape.Fits(f, got.b) || x.More && got.flags == 0 {
			t.Errorf("Pack(%d, %d, %v): %v", f, m, x, got)
		}
		if again := of(Pack(f, m, x)); again != got {
			t.Errorf("Pack(%d, %d, %v): %v, then %v", f, m, x, got, again)
		}
	}
}
