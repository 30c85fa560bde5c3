package toint

import (
	"math"
	"math/big"
	"strconv"
	"testing"

	"abacus/api"
	"abacus/exact"
	"abacus/kind"
	"abacus/shape"
)

const (
	nx = api.Inexact
	nv = api.Invalid
)

func lo(x uint64) api.Bits { return api.Bits{Lo: x} }

func hi(x uint64) api.Bits { return api.Bits{Hi: x} }

// check holds Whole and Convert of an encoding, by all kinds and modes, against what the model says.
func (l layout) check(t *testing.T, a api.Bits) {
	t.Helper()
	for _, m := range modes {
		whole, list := l.wants(m, a)
		if got := told(Whole(l.form, m, a)); got != whole {
			t.Errorf("Whole(%d, %d, %x): %v; wanted %v", l.form, m, a, got, whole)
		}
		for k, want := range list {
			if got := of(Convert(api.IntKind(k), l.form, m, a)); got != want {
				t.Errorf("Convert(%d, %d, %d, %x): %v; wanted %v", k, l.form, m, a, got, want)
			}
		}
	}
}

// eachFormat runs a test on each format, all at the same time as one another and as other tests.
func eachFormat(t *testing.T, test func(t *testing.T, l layout)) {
	t.Parallel()
	for _, l := range layouts {
		t.Run(strconv.Itoa(l.w), func(t *testing.T) {
			t.Parallel()
			test(t, l)
		})
	}
}

// seed is another one for each format and each test.
func (l layout) seed(n int) source { return source(n<<16 + l.w) }

// The chapter's examples.
func TestExamples(t *testing.T) {
	for _, c := range []struct {
		k       api.IntKind
		f       api.Form
		m       api.Mode
		a, want uint64
		flags   api.Flags
	}{
		{api.W, api.Half, api.ToZero, 0xbc00, 0xffffffffffffffff, 0},
		{api.L, api.Half, api.ToZero, 0xbc00, 0xffffffffffffffff, 0},
		{api.WU, api.Half, api.NearEven, 0xbc00, 0, nv},
		{api.WU, api.Half, api.NearEven, 0xb800, 0, nx},
		{api.WU, api.Half, api.Down, 0xb800, 0, nv},
		{api.W, api.Half, api.NearEven, 0x4100, 2, nx},
		{api.W, api.Half, api.NearAway, 0x4100, 3, nx},
		{api.W, api.Half, api.Up, 0x4100, 3, nx},
		{api.W, api.Single, api.NearEven, 0x4f000000, 0x7fffffff, nv},
		{api.WU, api.Single, api.NearEven, 0x4f800000, 0xffffffffffffffff, nv},
		{api.L, api.Single, api.NearEven, 0x7fc00000, 0x7fffffffffffffff, nv},
		{api.WU, api.Single, api.NearEven, 0x4f000000, 0xffffffff80000000, 0},
	} {
		if got := of(Convert(c.k, c.f, c.m, lo(c.a))); got != (answer{x: c.want, flags: c.flags}) {
			t.Errorf("Convert(%d, %d, %d, %x): %v", c.k, c.f, c.m, c.a, got)
		}
	}
	for _, c := range []struct {
		m    api.Mode
		a    uint64
		want total
	}{
		{api.NearEven, 0x4100, total{n: api.Wide{2}}},
		{api.Up, 0xb800, total{}},
		{api.NearEven, 0x7c00, total{e: api.ErrNumber}},
	} {
		if got := told(Whole(api.Half, c.m, lo(c.a))); got != c.want {
			t.Errorf("Whole(Half, %d, %x): %v", c.m, c.a, got)
		}
	}
}

// ends are the last numbers of each kind's range as an x register has them, by hand.
var ends = []struct {
	k               api.IntKind
	least, greatest uint64
}{
	{api.W, 0xffffffff80000000, 0x000000007fffffff},
	{api.WU, 0, 0xffffffffffffffff},
	{api.L, 0x8000000000000000, 0x7fffffffffffffff},
	{api.LU, 0, 0xffffffffffffffff},
}

// P19.2: all kinds, and what is none.
func TestEnds(t *testing.T) {
	for _, c := range ends {
		if got := ending(Least(c.k)); got != (last{x: c.least}) {
			t.Errorf("Least(%d): %v", c.k, got)
		}
		if got := ending(Greatest(c.k)); got != (last{x: c.greatest}) {
			t.Errorf("Greatest(%d): %v", c.k, got)
		}
	}
	for k := 4; k < 256; k++ {
		if got := ending(Least(api.IntKind(k))); got != (last{e: api.ErrArg}) {
			t.Errorf("Least(%d): %v", k, got)
		}
		if got := ending(Greatest(api.IntKind(k))); got != (last{e: api.ErrArg}) {
			t.Errorf("Greatest(%d): %v", k, got)
		}
	}
}

// outstanding are encodings that each format has, by hand. NaNs stand at the ends of their kinds, with both signs.
var outstanding = []struct {
	form                                    api.Form
	zero, negZero, one, negOne, inf, negInf api.Bits
	least, negLeast, greatest, negGreatest  api.Bits
	nans                                    []api.Bits
}{
	{
		form: api.Half, negZero: lo(0x8000), one: lo(0x3c00), negOne: lo(0xbc00), inf: lo(0x7c00), negInf: lo(0xfc00),
		least: lo(1), negLeast: lo(0x8001), greatest: lo(0x7bff), negGreatest: lo(0xfbff),
		nans: []api.Bits{lo(0x7e00), lo(0xfe00), lo(0x7fff), lo(0xffff), lo(0x7c01), lo(0xfc01), lo(0x7dff), lo(0xfdff)},
	},
	{
		form: api.Single, negZero: lo(0x80000000), one: lo(0x3f800000), negOne: lo(0xbf800000), inf: lo(0x7f800000), negInf: lo(0xff800000),
		least: lo(1), negLeast: lo(0x80000001), greatest: lo(0x7f7fffff), negGreatest: lo(0xff7fffff),
		nans: []api.Bits{lo(0x7fc00000), lo(0xffc00000), lo(0x7fffffff), lo(0xffffffff), lo(0x7f800001), lo(0xff800001), lo(0x7fbfffff), lo(0xffbfffff)},
	},
	{
		form: api.Double, negZero: lo(0x8000000000000000), one: lo(0x3ff0000000000000), negOne: lo(0xbff0000000000000), inf: lo(0x7ff0000000000000), negInf: lo(0xfff0000000000000),
		least: lo(1), negLeast: lo(0x8000000000000001), greatest: lo(0x7fefffffffffffff), negGreatest: lo(0xffefffffffffffff),
		nans: []api.Bits{lo(0x7ff8000000000000), lo(0xfff8000000000000), lo(0x7fffffffffffffff), lo(0xffffffffffffffff), lo(0x7ff0000000000001), lo(0xfff0000000000001), lo(0x7ff7ffffffffffff), lo(0xfff7ffffffffffff)},
	},
	{
		form: api.Quad, negZero: hi(0x8000000000000000), one: hi(0x3fff000000000000), negOne: hi(0xbfff000000000000), inf: hi(0x7fff000000000000), negInf: hi(0xffff000000000000),
		least: lo(1), negLeast: api.Bits{Hi: 0x8000000000000000, Lo: 1}, greatest: api.Bits{Hi: 0x7ffeffffffffffff, Lo: math.MaxUint64}, negGreatest: api.Bits{Hi: 0xfffeffffffffffff, Lo: math.MaxUint64},
		nans: []api.Bits{hi(0x7fff800000000000), hi(0xffff800000000000), {Hi: 0x7fffffffffffffff, Lo: math.MaxUint64}, {Hi: math.MaxUint64, Lo: math.MaxUint64}, {Hi: 0x7fff000000000000, Lo: 1}, {Hi: 0xffff000000000000, Lo: 1}, {Hi: 0x7fff7fffffffffff, Lo: math.MaxUint64}, {Hi: 0xffff7fffffffffff, Lo: math.MaxUint64}},
	},
}

// wantAll asks for the same answer of Convert by all modes.
func wantAll(t *testing.T, k api.IntKind, f api.Form, a api.Bits, want answer) {
	t.Helper()
	for _, m := range modes {
		if got := of(Convert(k, f, m, a)); got != want {
			t.Errorf("Convert(%d, %d, %d, %x): %v; wanted %v", k, f, m, a, got, want)
		}
	}
}

// wantWhole asks for the same answer of Whole by all modes.
func wantWhole(t *testing.T, f api.Form, a api.Bits, want total) {
	t.Helper()
	for _, m := range modes {
		if got := told(Whole(f, m, a)); got != want {
			t.Errorf("Whole(%d, %d, %x): %v; wanted %v", f, m, a, got, want)
		}
	}
}

// P19.1, by hand: NaNs, infinities, zeros, 1 and -1, from each format into each kind.
func TestCases(t *testing.T) {
	for _, c := range outstanding {
		for _, k := range ends {
			for _, a := range c.nans {
				wantAll(t, k.k, c.form, a, answer{x: k.greatest, flags: nv})
			}
			wantAll(t, k.k, c.form, c.inf, answer{x: k.greatest, flags: nv})
			wantAll(t, k.k, c.form, c.negInf, answer{x: k.least, flags: nv})
			wantAll(t, k.k, c.form, c.zero, answer{})
			wantAll(t, k.k, c.form, c.negZero, answer{})
			wantAll(t, k.k, c.form, c.one, answer{x: 1})
			if k.least == 0 {
				wantAll(t, k.k, c.form, c.negOne, answer{flags: nv})
			} else {
				wantAll(t, k.k, c.form, c.negOne, answer{x: math.MaxUint64})
			}
			if c.form != api.Half {
				wantAll(t, k.k, c.form, c.greatest, answer{x: k.greatest, flags: nv})
				wantAll(t, k.k, c.form, c.negGreatest, answer{x: k.least, flags: nv})
			}
		}
	}
}

// P19.3, by hand: the same of Whole.
func TestWholeCases(t *testing.T) {
	for _, c := range outstanding {
		for _, a := range append(c.nans, c.inf, c.negInf) {
			wantWhole(t, c.form, a, total{e: api.ErrNumber})
		}
		wantWhole(t, c.form, c.zero, total{exact: true})
		wantWhole(t, c.form, c.negZero, total{exact: true})
		wantWhole(t, c.form, c.one, total{n: api.Wide{1}, exact: true})
		wantWhole(t, c.form, c.negOne, total{neg: true, n: api.Wide{1}, exact: true})
	}
}

// byHand is an encoding, and what it is converted into by NearEven, ToZero, Down, Up, NearAway.
type byHand struct {
	a     api.Bits
	want  [5]int64
	flags [5]api.Flags
}

func checkHands(t *testing.T, k api.IntKind, f api.Form, list []byHand) {
	t.Helper()
	for _, c := range list {
		for _, m := range modes {
			if got := of(Convert(k, f, m, c.a)); got != (answer{x: uint64(c.want[m]), flags: c.flags[m]}) {
				t.Errorf("Convert(%d, %d, %d, %x): %v; wanted %x, flags %d", k, f, m, c.a, got, uint64(c.want[m]), c.flags[m])
			}
		}
	}
}

func all(x api.Flags) [5]api.Flags { return [5]api.Flags{x, x, x, x, x} }

func same(x int64) [5]int64 { return [5]int64{x, x, x, x, x} }

// fractions are numbers of Half about halves, both signs, as kinds with a sign have them.
var fractions = []byHand{
	{lo(0x0001), [5]int64{0, 0, 0, 1, 0}, all(nx)},
	{lo(0x03ff), [5]int64{0, 0, 0, 1, 0}, all(nx)},
	{lo(0x3400), [5]int64{0, 0, 0, 1, 0}, all(nx)},
	{lo(0x37ff), [5]int64{0, 0, 0, 1, 0}, all(nx)},
	{lo(0x3800), [5]int64{0, 0, 0, 1, 1}, all(nx)},
	{lo(0x3801), [5]int64{1, 0, 0, 1, 1}, all(nx)},
	{lo(0x3bff), [5]int64{1, 0, 0, 1, 1}, all(nx)},
	{lo(0x3c00), same(1), all(0)},
	{lo(0x3c01), [5]int64{1, 1, 1, 2, 1}, all(nx)},
	{lo(0x3e00), [5]int64{2, 1, 1, 2, 2}, all(nx)},
	{lo(0x4000), same(2), all(0)},
	{lo(0x4100), [5]int64{2, 2, 2, 3, 3}, all(nx)},
	{lo(0x4300), [5]int64{4, 3, 3, 4, 4}, all(nx)},
	{lo(0x63ff), [5]int64{1024, 1023, 1023, 1024, 1024}, all(nx)},
	{lo(0x6401), same(1025), all(0)},
	{lo(0x7bff), same(65504), all(0)},
	{lo(0x8001), [5]int64{0, 0, -1, 0, 0}, all(nx)},
	{lo(0xb400), [5]int64{0, 0, -1, 0, 0}, all(nx)},
	{lo(0xb7ff), [5]int64{0, 0, -1, 0, 0}, all(nx)},
	{lo(0xb800), [5]int64{0, 0, -1, 0, -1}, all(nx)},
	{lo(0xb801), [5]int64{-1, 0, -1, 0, -1}, all(nx)},
	{lo(0xbbff), [5]int64{-1, 0, -1, 0, -1}, all(nx)},
	{lo(0xbc00), same(-1), all(0)},
	{lo(0xbe00), [5]int64{-2, -1, -2, -1, -2}, all(nx)},
	{lo(0xc100), [5]int64{-2, -2, -3, -2, -3}, all(nx)},
	{lo(0xc300), [5]int64{-4, -3, -4, -3, -4}, all(nx)},
	{lo(0xfbff), same(-65504), all(0)},
}

// P19.1, by hand: fractions, as both kinds with a sign have them.
func TestFractions(t *testing.T) {
	checkHands(t, api.W, api.Half, fractions)
	checkHands(t, api.L, api.Half, fractions)
}

// P19.3, by hand: the same of Whole; neg goes by what was rounded, not by the sign.
func TestWholeFractions(t *testing.T) {
	for _, c := range fractions {
		for _, m := range modes {
			want := total{neg: c.want[m] < 0, n: api.Wide{uint64(max(c.want[m], -c.want[m]))}, exact: c.flags[m] == 0}
			if got := told(Whole(api.Half, m, c.a)); got != want {
				t.Errorf("Whole(Half, %d, %x): %v; wanted %v", m, c.a, got, want)
			}
		}
	}
}

// P19.1 and P19.4, by hand: about both ends of W.
func TestEndsOfW(t *testing.T) {
	const least, greatest = -1 << 31, 1<<31 - 1
	checkHands(t, api.W, api.Double, []byHand{
		{lo(0x41dfffffff800000), same(greatest - 1), all(0)},
		{lo(0x41dfffffffa00000), [5]int64{greatest - 1, greatest - 1, greatest - 1, greatest, greatest}, all(nx)},
		{lo(0x41dfffffffc00000), same(greatest), all(0)},
		{lo(0x41dfffffffc00001), same(greatest), [5]api.Flags{nx, nx, nx, nv, nx}},
		{lo(0x41dfffffffdfffff), same(greatest), [5]api.Flags{nx, nx, nx, nv, nx}},
		{lo(0x41dfffffffe00000), same(greatest), [5]api.Flags{nv, nx, nx, nv, nv}},
		{lo(0x41dfffffffffffff), same(greatest), [5]api.Flags{nv, nx, nx, nv, nv}},
		{lo(0x41e0000000000000), same(greatest), all(nv)},
		{lo(0x41f0000000000000), same(greatest), all(nv)},
		{lo(0x41f0000000200000), same(greatest), all(nv)},
		{lo(0x43f0000000000000), same(greatest), all(nv)},
		{lo(0xc1dfffffffc00000), same(least + 1), all(0)},
		{lo(0xc1dfffffffe00000), [5]int64{least, least + 1, least, least + 1, least}, all(nx)},
		{lo(0xc1e0000000000000), same(least), all(0)},
		{lo(0xc1e0000000000001), same(least), [5]api.Flags{nx, nx, nv, nx, nx}},
		{lo(0xc1e0000000100000), same(least), [5]api.Flags{nx, nx, nv, nx, nv}},
		{lo(0xc1e0000000100001), same(least), [5]api.Flags{nv, nx, nv, nx, nv}},
		{lo(0xc1e0000000200000), same(least), all(nv)},
		{lo(0xc1f0000000000000), same(least), all(nv)},
		{lo(0xc3f0000000000000), same(least), all(nv)},
	})
	checkHands(t, api.W, api.Single, []byHand{
		{lo(0x4effffff), same(1<<31 - 128), all(0)},
		{lo(0x4f000000), same(greatest), all(nv)},
		{lo(0xcf000000), same(least), all(0)},
		{lo(0xcf000001), same(least), all(nv)},
	})
}

// P19.1 and P19.4, by hand: about both ends of WU, and where its bit 31 goes up.
func TestEndsOfWU(t *testing.T) {
	checkHands(t, api.WU, api.Double, []byHand{
		{lo(0x41dfffffffc00000), same(1<<31 - 1), all(0)},
		{lo(0x41dfffffffe00000), [5]int64{-1 << 31, 1<<31 - 1, 1<<31 - 1, -1 << 31, -1 << 31}, all(nx)},
		{lo(0x41e0000000000000), same(-1 << 31), all(0)},
		{lo(0x41efffffffc00000), same(-2), all(0)},
		{lo(0x41efffffffe00000), same(-1), all(0)},
		{lo(0x41efffffffe00001), same(-1), [5]api.Flags{nx, nx, nx, nv, nx}},
		{lo(0x41effffffff00000), same(-1), [5]api.Flags{nv, nx, nx, nv, nv}},
		{lo(0x41f0000000000000), same(-1), all(nv)},
		{lo(0x41f0000000100000), same(-1), all(nv)},
		{lo(0x43f0000000000000), same(-1), all(nv)},
		{lo(0x8000000000000000), same(0), all(0)},
		{lo(0x8000000000000001), same(0), [5]api.Flags{nx, nx, nv, nx, nx}},
		{lo(0xbfd0000000000000), same(0), [5]api.Flags{nx, nx, nv, nx, nx}},
		{lo(0xbfe0000000000000), same(0), [5]api.Flags{nx, nx, nv, nx, nv}},
		{lo(0xbfe0000000000001), same(0), [5]api.Flags{nv, nx, nv, nx, nv}},
		{lo(0xbfefffffffffffff), same(0), [5]api.Flags{nv, nx, nv, nx, nv}},
		{lo(0xbff0000000000000), same(0), all(nv)},
		{lo(0xc1efffffffe00000), same(0), all(nv)},
		{lo(0xc1f0000000000000), same(0), all(nv)},
	})
}

// P19.1 and P19.4, by hand: about both ends of L.
func TestEndsOfL(t *testing.T) {
	const least, greatest = math.MinInt64, math.MaxInt64
	checkHands(t, api.L, api.Quad, []byHand{
		{api.Bits{Hi: 0x403dffffffffffff, Lo: 0xfff8000000000000}, same(greatest - 1), all(0)},
		{api.Bits{Hi: 0x403dffffffffffff, Lo: 0xfffc000000000000}, same(greatest), all(0)},
		{api.Bits{Hi: 0x403dffffffffffff, Lo: 0xfffc000000000001}, same(greatest), [5]api.Flags{nx, nx, nx, nv, nx}},
		{api.Bits{Hi: 0x403dffffffffffff, Lo: 0xfffe000000000000}, same(greatest), [5]api.Flags{nv, nx, nx, nv, nv}},
		{hi(0x403e000000000000), same(greatest), all(nv)},
		{hi(0x403f000000000000), same(greatest), all(nv)},
		{api.Bits{Hi: 0xc03dffffffffffff, Lo: 0xfffe000000000000}, [5]int64{least, least + 1, least, least + 1, least}, all(nx)},
		{hi(0xc03e000000000000), same(least), all(0)},
		{api.Bits{Hi: 0xc03e000000000000, Lo: 1}, same(least), [5]api.Flags{nx, nx, nv, nx, nx}},
		{api.Bits{Hi: 0xc03e000000000000, Lo: 0x0001000000000000}, same(least), [5]api.Flags{nx, nx, nv, nx, nv}},
		{api.Bits{Hi: 0xc03e000000000000, Lo: 0x0002000000000000}, same(least), all(nv)},
		{hi(0xc03f000000000000), same(least), all(nv)},
		{hi(0xc07f000000000000), same(least), all(nv)},
	})
	checkHands(t, api.L, api.Double, []byHand{
		{lo(0x43dfffffffffffff), same(greatest - 1023), all(0)},
		{lo(0x43e0000000000000), same(greatest), all(nv)},
		{lo(0xc3e0000000000000), same(least), all(0)},
		{lo(0xc3e0000000000001), same(least), all(nv)},
		{lo(0x41f0000000000000), same(1 << 32), all(0)},
		{lo(0xc1e0000000200000), same(-1<<31 - 1), all(0)},
	})
}

// P19.1 and P19.4, by hand: about both ends of LU.
func TestEndsOfLU(t *testing.T) {
	checkHands(t, api.LU, api.Quad, []byHand{
		{hi(0x403e000000000000), same(math.MinInt64), all(0)},
		{api.Bits{Hi: 0x403effffffffffff, Lo: 0xfffc000000000000}, same(-2), all(0)},
		{api.Bits{Hi: 0x403effffffffffff, Lo: 0xfffe000000000000}, same(-1), all(0)},
		{api.Bits{Hi: 0x403effffffffffff, Lo: 0xfffe000000000001}, same(-1), [5]api.Flags{nx, nx, nx, nv, nx}},
		{api.Bits{Hi: 0x403effffffffffff, Lo: 0xffff000000000000}, same(-1), [5]api.Flags{nv, nx, nx, nv, nv}},
		{hi(0x403f000000000000), same(-1), all(nv)},
		{api.Bits{Hi: 0x403f000000000000, Lo: 0x0001000000000000}, same(-1), all(nv)},
		{api.Bits{Hi: 0x8000000000000000, Lo: 1}, same(0), [5]api.Flags{nx, nx, nv, nx, nx}},
		{api.Bits{Hi: 0xbffdffffffffffff, Lo: math.MaxUint64}, same(0), [5]api.Flags{nx, nx, nv, nx, nx}},
		{hi(0xbffe000000000000), same(0), [5]api.Flags{nx, nx, nv, nx, nv}},
		{api.Bits{Hi: 0xbffe000000000000, Lo: 1}, same(0), [5]api.Flags{nv, nx, nv, nx, nv}},
		{hi(0xbfff000000000000), same(0), all(nv)},
		{hi(0xc03e000000000000), same(0), all(nv)},
	})
	checkHands(t, api.LU, api.Double, []byHand{
		{lo(0x43efffffffffffff), same(-2048), all(0)},
		{lo(0x43f0000000000000), same(-1), all(nv)},
		{lo(0x41efffffffe00000), same(1<<32 - 1), all(0)},
		{lo(0x41e0000000000000), same(1 << 31), all(0)},
	})
}

// P19.3, by hand: long numbers, up to those that a Wide has no room for; P19.1: what these come to.
func TestLong(t *testing.T) {
	for _, c := range []struct {
		f        api.Form
		a, below api.Bits // below: the same with the other sign
		want     total
	}{
		{api.Half, lo(0x7bff), lo(0xfbff), total{n: api.Wide{65504}, exact: true}},
		{api.Single, lo(0x7f7fffff), lo(0xff7fffff), total{n: api.Wide{1: 0xffffff0000000000}, exact: true}},
		{api.Double, lo(0x43f0000000000000), lo(0xc3f0000000000000), total{n: api.Wide{1: 1}, exact: true}},
		{api.Double, lo(0x57e0000000000000), lo(0xd7e0000000000000), total{n: api.Wide{5: 1 << 63}, exact: true}},
		{api.Double, lo(0x57efffffffffffff), lo(0xd7efffffffffffff), total{n: api.Wide{5: 0xfffffffffffff800}, exact: true}},
		{api.Double, lo(0x57f0000000000000), lo(0xd7f0000000000000), total{e: api.ErrLong}},
		{api.Double, lo(0x57f0000000000001), lo(0xd7f0000000000001), total{e: api.ErrLong}},
		{api.Double, lo(0x5800000000000000), lo(0xd800000000000000), total{e: api.ErrLong}},
		{api.Double, lo(0x7fefffffffffffff), lo(0xffefffffffffffff), total{e: api.ErrLong}},
		{api.Quad, api.Bits{Hi: 0x406f000000000000, Lo: 1}, api.Bits{Hi: 0xc06f000000000000, Lo: 1}, total{n: api.Wide{1, 1 << 48}, exact: true}},
		{api.Quad, api.Bits{Hi: 0x417effffffffffff, Lo: math.MaxUint64}, api.Bits{Hi: 0xc17effffffffffff, Lo: math.MaxUint64}, total{n: api.Wide{4: 0xffffffffffff8000, 5: math.MaxUint64}, exact: true}},
		{api.Quad, hi(0x417f000000000000), hi(0xc17f000000000000), total{e: api.ErrLong}},
		{api.Quad, api.Bits{Hi: 0x417f000000000000, Lo: 1}, api.Bits{Hi: 0xc17f000000000000, Lo: 1}, total{e: api.ErrLong}},
		{api.Quad, hi(0x41ff000000000000), hi(0xc1ff000000000000), total{e: api.ErrLong}},
		{api.Quad, api.Bits{Hi: 0x7ffeffffffffffff, Lo: math.MaxUint64}, api.Bits{Hi: 0xfffeffffffffffff, Lo: math.MaxUint64}, total{e: api.ErrLong}},
	} {
		wantWhole(t, c.f, c.a, c.want)
		if c.want.e == api.OK {
			c.want.neg = true
		}
		wantWhole(t, c.f, c.below, c.want)
		for _, k := range ends {
			if c.f != api.Half {
				wantAll(t, k.k, c.f, c.a, answer{x: k.greatest, flags: nv})
				wantAll(t, k.k, c.f, c.below, answer{x: k.least, flags: nv})
			}
		}
	}
}

// P19.3, by hand: numbers of Quad with fractions, whose whole parts have two words, or whose fractions stand in both.
func TestWholeOfQuad(t *testing.T) {
	for _, c := range []struct {
		a    api.Bits
		want [5]api.Wide // by NearEven, ToZero, Down, Up, NearAway
	}{
		{api.Bits{Hi: 0x3fff000000000000, Lo: 1}, [5]api.Wide{{1}, {1}, {1}, {2}, {1}}},
		{api.Bits{Hi: 0x3fff800000000000, Lo: 0}, [5]api.Wide{{2}, {1}, {1}, {2}, {2}}},
		{api.Bits{Hi: 0x4000400000000000, Lo: 0}, [5]api.Wide{{2}, {2}, {2}, {3}, {3}}},
		{api.Bits{Hi: 0x4000400000000000, Lo: 1}, [5]api.Wide{{3}, {2}, {2}, {3}, {3}}},
		{api.Bits{Hi: 0x40003fffffffffff, Lo: math.MaxUint64}, [5]api.Wide{{2}, {2}, {2}, {3}, {2}}},
		{api.Bits{Hi: 0x403effffffffffff, Lo: 0xffff000000000000}, [5]api.Wide{{0, 1}, {math.MaxUint64}, {math.MaxUint64}, {0, 1}, {0, 1}}},
		{api.Bits{Hi: 0x406effffffffffff, Lo: math.MaxUint64}, [5]api.Wide{{0, 1 << 48}, {math.MaxUint64, 1<<48 - 1}, {math.MaxUint64, 1<<48 - 1}, {0, 1 << 48}, {0, 1 << 48}}},
		{lo(1), [5]api.Wide{{}, {}, {}, {1}, {}}},
	} {
		neg := c.a
		neg.Hi |= 1 << 63
		for _, m := range modes {
			if got := told(Whole(api.Quad, m, c.a)); got != (total{n: c.want[m]}) {
				t.Errorf("Whole(Quad, %d, %x): %v; wanted %x", m, c.a, got, c.want[m])
			}
			// Below 0 Down and Up change places.
			want := c.want[[...]api.Mode{api.NearEven, api.ToZero, api.Up, api.Down, api.NearAway}[m]]
			if got := told(Whole(api.Quad, m, neg)); got != (total{neg: want != api.Wide{}, n: want}) {
				t.Errorf("Whole(Quad, %d, %x): %v; wanted %x", m, neg, got, want)
			}
		}
	}
}

// P19.1 and P19.3: the edges of the formats.
func TestEdges(t *testing.T) {
	eachFormat(t, func(t *testing.T, l layout) {
		for _, a := range l.edges() {
			l.check(t, a)
		}
	})
}

// P19.1 and P19.3: the edges of the ranges, of a Wide, and of what is whole, at these and between them.
func TestFacingEdges(t *testing.T) {
	eachFormat(t, func(t *testing.T, l layout) {
		for _, a := range l.facing() {
			l.check(t, a)
		}
	})
}

// P19.1 and P19.3: exponents all over, each one where something is whole and something is not, and subnormal numbers of each length.
func TestExponents(t *testing.T) {
	eachFormat(t, func(t *testing.T, l layout) {
		s := l.seed(1)
		last := 2*l.emax + 1
		for field := 0; field < last; field++ {
			if far := field - l.emax; (far < -130 || far > 400) && s.below(2+last/300) != 0 {
				continue
			}
			at := raise(small(int64(field)), l.p-1)
			l.check(t, l.bits(false, at))
			l.check(t, l.bits(true, at))
			l.check(t, l.bits(field%2 == 0, new(big.Int).Add(at, s.bits(l.p-1))))
			l.check(t, l.bits(field%2 == 1, new(big.Int).Add(at, raise(s.bits(3), s.below(l.p-3)))))
			l.check(t, l.bits(field%4 < 2, beside(new(big.Int).Add(at, power(l.p-1)), -1)))
		}
		for n := range l.p - 1 {
			l.check(t, l.bits(n%2 == 0, power(n)))
			l.check(t, l.bits(n%2 == 1, beside(power(n+1), -1)))
		}
	})
}

// P19.1 and P19.3: encodings all over, and such as are about whole numbers.
func TestAllOver(t *testing.T) {
	eachFormat(t, func(t *testing.T, l layout) {
		s := l.seed(2)
		for range 4000 {
			l.check(t, l.any(&s))
			l.check(t, l.near(&s))
			l.check(t, l.near(&s))
		}
	})
}

// whole is a float rounded to a whole number by the language's own functions.
func whole(m api.Mode, x float64) float64 {
	switch m {
	case api.NearEven:
		return math.RoundToEven(x)
	case api.ToZero:
		return math.Trunc(x)
	case api.Down:
		return math.Floor(x)
	case api.Up:
		return math.Ceil(x)
	}
	return math.Round(x)
}

// ofFloat is what Convert answers of a float, by the language's own rounding and conversions.
func ofFloat(k api.IntKind, m api.Mode, x float64) answer {
	least := []float64{-1 << 31, 0, -1 << 63, 0}[k]
	beyond := []float64{1 << 31, 1 << 32, 1 << 63, 1 << 64}[k]
	r := whole(m, x)
	var flags api.Flags
	if r != x {
		flags = nx
	}
	switch {
	case x != x || r >= beyond:
		return answer{x: ends[k].greatest, flags: nv}
	case r < least:
		return answer{x: ends[k].least, flags: nv}
	case k == api.W:
		return answer{x: uint64(int32(r)), flags: flags}
	case k == api.WU:
		return answer{x: uint64(int32(uint32(r))), flags: flags}
	case k == api.L:
		return answer{x: uint64(int64(r)), flags: flags}
	}
	return answer{x: uint64(r), flags: flags}
}

// checkFloat holds Convert of an encoding, by all kinds and modes, against the language's own floats.
func checkFloat(t *testing.T, f api.Form, a uint64, x float64) {
	t.Helper()
	for _, k := range ends {
		for _, m := range modes {
			if got, want := of(Convert(k.k, f, m, lo(a))), ofFloat(k.k, m, x); got != want {
				t.Errorf("Convert(%d, %d, %d, %x): %v; the float %v is %v", k.k, f, m, a, got, x, want)
			}
		}
	}
}

// halfValue is what an encoding of Half is.
func halfValue(a uint64) float64 {
	sign := 1 - 2*float64(a>>15)
	field, fraction := int(a>>10&31), float64(a&1023)
	switch {
	case field == 31 && fraction != 0:
		return math.NaN()
	case field == 31:
		return math.Inf(int(sign))
	case field == 0:
		return math.Copysign(math.Ldexp(fraction, -24), sign)
	}
	return sign * math.Ldexp(fraction+1024, field-25)
}

// P19.1: all encodings of Half, into each kind by all modes.
func TestAllHalf(t *testing.T) {
	t.Parallel()
	for a := range uint64(1 << 16) {
		checkFloat(t, api.Half, a, halfValue(a))
	}
}

// P19.1: Single and Double, as the language's own floats have them.
func TestOwnFloats(t *testing.T) {
	t.Parallel()
	single, double := layouts[1], layouts[2]
	s := source(64)
	for range 20000 {
		for _, a := range []api.Bits{double.any(&s), double.near(&s)} {
			checkFloat(t, api.Double, a.Lo, math.Float64frombits(a.Lo))
		}
		for _, a := range []api.Bits{single.any(&s), single.near(&s)} {
			checkFloat(t, api.Single, a.Lo, float64(math.Float32frombits(uint32(a.Lo))))
		}
	}
}

// some are encodings for what follows.
func (l layout) some(n int) []api.Bits {
	s := l.seed(n)
	list := append(l.edges(), l.facing()...)
	for range 3000 {
		list = append(list, l.any(&s), l.near(&s))
	}
	return list
}

// P19.3: by ToZero it is layer 6's whole part of layer 8's value; of what has none the error is layer 8's.
func TestWholePart(t *testing.T) {
	eachFormat(t, func(t *testing.T, l layout) {
		for _, a := range l.some(3) {
			want := total{}
			x, e := kind.Value(l.form, a)
			if e != api.OK {
				want.e = e
			} else if n, is, _ := exact.Floor(x, 0); len(n) > 48 {
				want.e = api.ErrLong
			} else {
				want = total{neg: x.Neg && n != "", exact: is, n: words(new(big.Int).SetBytes([]byte(n)))}
			}
			if got := told(Whole(l.form, api.ToZero, a)); got != want {
				t.Errorf("Whole(%d, ToZero, %x): %v; wanted %v", l.form, a, got, want)
			}
		}
	})
}

// P19.4: what is rounded to 0 from below is 0 of any kind, with Inexact alone.
func TestToZeroFromBelow(t *testing.T) {
	eachFormat(t, func(t *testing.T, l layout) {
		found := [5]int{}
		half := l.place(number{small(1), -1})
		for _, a := range l.some(4) {
			neg, i := l.split(a)
			if !neg || i.Sign() == 0 || i.Cmp(l.one()) >= 0 {
				continue
			}
			for _, m := range modes {
				above := i.Cmp(half)
				if m == api.Down || m == api.NearEven && above > 0 || m == api.NearAway && above >= 0 {
					continue
				}
				found[m]++
				for _, k := range ends {
					if got := of(Convert(k.k, l.form, m, a)); got != (answer{flags: nx}) {
						t.Errorf("Convert(%d, %d, %d, %x): %v; wanted 0 and Inexact", k.k, l.form, m, a, got)
					}
				}
				if got := told(Whole(l.form, m, a)); got != (total{}) {
					t.Errorf("Whole(%d, %d, %x): %v; wanted 0", l.form, m, a, got)
				}
			}
		}
		for m, n := range found {
			if (n == 0) != (api.Mode(m) == api.Down) {
				t.Errorf("of format %d %d are rounded to 0 from below by %d", l.form, n, m)
			}
		}
	})
}

// P19.4: what is in the range of W is the same by L.
func TestNarrowAsBroad(t *testing.T) {
	eachFormat(t, func(t *testing.T, l layout) {
		found := 0
		for i, a := range l.some(5) {
			m := modes[i%5]
			narrow := of(Convert(api.W, l.form, m, a))
			if narrow.flags == nv {
				continue
			}
			found++
			if broad := of(Convert(api.L, l.form, m, a)); broad != narrow {
				t.Errorf("Convert(W and L, %d, %d, %x): %v, %v", l.form, m, a, narrow, broad)
			}
		}
		if found == 0 {
			t.Errorf("of format %d none is in the range of W", l.form)
		}
	})
}

// P19.4: of what is whole and in the range there are no flags, and the same answer by any mode.
func TestNoFlagsOfWhole(t *testing.T) {
	eachFormat(t, func(t *testing.T, l layout) {
		s := l.seed(6)
		for range 3000 {
			for _, k := range spans {
				// A number of at most p bits, with noughts behind it, is an encoding's, if the format goes so far.
				n := s.bits(1 + s.below(min(k.size, l.p)))
				n = raise(n, s.below(1+k.size-n.BitLen()))
				if s.below(2) == 0 {
					n.Neg(n)
				}
				size := new(big.Int).Abs(n)
				if n.Cmp(k.least) < 0 || n.Cmp(k.greatest) > 0 || size.Cmp(power(l.emax+1)) >= 0 {
					continue
				}
				a := l.bits(n.Sign() < 0, l.place(number{size, 0}))
				wantAll(t, k.kind, l.form, a, answer{x: k.register(n)})
				wantWhole(t, l.form, a, total{neg: n.Sign() < 0, n: words(size), exact: true})
			}
		}
	})
}

var (
	nothing = answer{e: api.ErrArg}
	nought  = total{e: api.ErrArg}
)

// P19.1 to P19.3: what is no kind, whatever is beside it.
func TestNoKind(t *testing.T) {
	for k := 4; k < 256; k++ {
		for _, c := range outstanding {
			for _, a := range append(c.nans, c.inf, c.negInf, c.zero, c.negZero, c.one, c.negOne, c.least, c.negLeast, c.greatest, c.negGreatest) {
				for _, m := range append(modes, 5, api.Dyn) {
					if got := of(Convert(api.IntKind(k), c.form, m, a)); got != nothing {
						t.Fatalf("Convert(%d, %d, %d, %x): %v", k, c.form, m, a, got)
					}
				}
			}
		}
	}
}

// P19.1 and P19.3: what is no format, whatever is beside it.
func TestNoFormat(t *testing.T) {
	for f := 4; f < 256; f++ {
		for _, a := range []api.Bits{{}, lo(1), lo(0x8000), lo(0x3c00), lo(0x7c00), lo(0x7e00), hi(0x3fff000000000000), hi(0x7ffe000000000000), hi(1 << 63)} {
			for m := range 8 {
				for k := range 6 {
					if got := of(Convert(api.IntKind(k), api.Form(f), api.Mode(m), a)); got != nothing {
						t.Fatalf("Convert(%d, %d, %d, %x): %v", k, f, m, a, got)
					}
				}
				if got := told(Whole(api.Form(f), api.Mode(m), a)); got != nought {
					t.Fatalf("Whole(%d, %d, %x): %v", f, m, a, got)
				}
			}
		}
	}
}

// P19.1 and P19.3: what is no mode, Dyn too, of all kinds of encodings: also where nothing would be rounded, and ahead of the other errors.
func TestNoMode(t *testing.T) {
	for m := 5; m < 256; m++ {
		for _, c := range outstanding {
			for _, a := range append(c.nans, c.inf, c.negInf, c.zero, c.negZero, c.one, c.negOne, c.least, c.negLeast, c.greatest, c.negGreatest) {
				for k := range 5 {
					if got := of(Convert(api.IntKind(k), c.form, api.Mode(m), a)); got != nothing {
						t.Fatalf("Convert(%d, %d, %d, %x): %v", k, c.form, m, a, got)
					}
				}
				if got := told(Whole(c.form, api.Mode(m), a)); got != nought {
					t.Fatalf("Whole(%d, %d, %x): %v", c.form, m, a, got)
				}
			}
		}
	}
}

// P19.1 and P19.3: bits that are no encoding, at each place above the width.
func TestNoEncoding(t *testing.T) {
	eachFormat(t, func(t *testing.T, l layout) {
		for place := l.w; place < 128; place++ {
			for i, bad := range l.edges() {
				if place < 64 {
					bad.Lo |= 1 << place
				} else {
					bad.Hi |= 1 << (place - 64)
				}
				m, k := modes[i%5], api.IntKind(i%4)
				if got := of(Convert(k, l.form, m, bad)); got != nothing {
					t.Fatalf("Convert(%d, %d, %d, %x): %v", k, l.form, m, bad, got)
				}
				if got := told(Whole(l.form, m, bad)); got != nought {
					t.Fatalf("Whole(%d, %d, %x): %v", l.form, m, bad, got)
				}
			}
		}
	})
}

// P0.1: whatever is handed in, answers that go together, or an error and nothing; a second time the same.
func TestWhatever(t *testing.T) {
	s := source(78)
	for range 40000 {
		k, f, m := api.IntKind(s.below(5)), api.Form(s.below(5)), api.Mode(s.below(6))
		a := layouts[s.below(4)].any(&s)
		got, whole := of(Convert(k, f, m, a)), told(Whole(f, m, a))
		if again, still := of(Convert(k, f, m, a)), told(Whole(f, m, a)); again != got || still != whole {
			t.Errorf("Convert, Whole(%d, %d, %d, %x): %v, %v, then %v, %v", k, f, m, a, got, whole, again, still)
		}
		if m > 4 || !shape.Fits(f, a) {
			if got != nothing || whole != nought {
				t.Errorf("Convert, Whole(%d, %d, %d, %x): %v, %v; wanted ErrArg", k, f, m, a, got, whole)
			}
			continue
		}
		if (got.e == api.ErrArg) != (k > 3) || k > 3 && got != nothing {
			t.Errorf("Convert(%d, %d, %d, %x): %v", k, f, m, a, got)
		}
		if got.flags != 0 && got.flags != nx && got.flags != nv {
			t.Errorf("Convert(%d, %d, %d, %x): %v", k, f, m, a, got)
		}
		if whole.e != api.OK && whole != (total{e: whole.e}) || whole.neg && whole.n == (api.Wide{}) {
			t.Errorf("Whole(%d, %d, %x): %v", f, m, a, whole)
		}
	}
}
