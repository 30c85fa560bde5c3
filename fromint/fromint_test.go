package fromint

import (
	"math"
	"math/big"
	"strconv"
	"testing"

	"abacus/api"
	"abacus/exact"
	"abacus/rule"
	"abacus/toint"
)

const (
	nx  = api.Inexact
	ofx = api.Overflow | api.Inexact
	top = math.MaxUint64
)

func lo(x uint64) api.Bits { return api.Bits{Lo: x} }

func hi(x uint64) api.Bits { return api.Bits{Hi: x} }

// check holds Number and Convert of a word, by all kinds and modes, against what the model says.
func (l layout) check(t *testing.T, x uint64) {
	t.Helper()
	for _, k := range spans {
		size, list := l.wants(k, x)
		if got := told(Number(k.kind, x)); got != size {
			t.Errorf("Number(%d, %x): %v; wanted %v", k.kind, x, got, size)
		}
		for _, m := range modes {
			if got := of(Convert(l.form, k.kind, m, x)); got != list[m] {
				t.Errorf("Convert(%d, %d, %d, %x): %v; wanted %v", l.form, k.kind, m, x, got, list[m])
			}
		}
	}
}

// eachFormat runs a test on each format, all at the same time as one another and as other tests.
func eachFormat(t *testing.T, test func(t *testing.T, l layout)) {
	t.Parallel()
	for _, l := range layouts {
		t.Run(strconv.Itoa(l.w), func(t *testing.T) {
			t.Parallel()
			test(t, l)
		})
	}
}

// seed is another one for each format and each test.
func (l layout) seed(n int) source { return source(n<<16 + l.w) }

// The chapter's examples.
func TestExamples(t *testing.T) {
	for _, c := range []struct {
		f    api.Form
		k    api.IntKind
		m    api.Mode
		x    uint64
		want answer
	}{
		{api.Half, api.W, api.NearEven, 0xffffffffffffffff, answer{b: lo(0xbc00)}},
		{api.Half, api.WU, api.NearEven, 0xffffffffffffffff, answer{b: lo(0x7c00), flags: ofx}},
		{api.Single, api.LU, api.NearEven, 0xffffffffffffffff, answer{b: lo(0x5f800000), flags: nx}},
		{api.Single, api.LU, api.ToZero, 0xffffffffffffffff, answer{b: lo(0x5f7fffff), flags: nx}},
		{api.Half, api.W, api.NearEven, 0x100000001, answer{b: lo(0x3c00)}},
		{api.Half, 4, api.NearEven, 1, answer{e: api.ErrArg}},
		{api.Half, api.W, 6, 1, answer{e: api.ErrArg}},
	} {
		if got := of(Convert(c.f, c.k, c.m, c.x)); got != c.want {
			t.Errorf("Convert(%d, %d, %d, %x): %v; wanted %v", c.f, c.k, c.m, c.x, got, c.want)
		}
	}
	if got := told(Number(api.W, 0x80000000)); got != (sized{neg: true, n: 1 << 31}) {
		t.Errorf("Number(W, 80000000): %v", got)
	}
	if got := told(Number(api.L, 0x8000000000000000)); got != (sized{neg: true, n: 1 << 63}) {
		t.Errorf("Number(L, 8000000000000000): %v", got)
	}
}

// P20.1, by hand: words at both ends of the kinds, as each kind reads them.
func TestNumberByHand(t *testing.T) {
	for _, c := range []struct {
		x    uint64
		want [4]sized // by W, WU, L, LU
	}{
		{0, [4]sized{}},
		{1, [4]sized{{n: 1}, {n: 1}, {n: 1}, {n: 1}}},
		{0x7fffffff, [4]sized{{n: 0x7fffffff}, {n: 0x7fffffff}, {n: 0x7fffffff}, {n: 0x7fffffff}}},
		{0x80000000, [4]sized{{neg: true, n: 0x80000000}, {n: 0x80000000}, {n: 0x80000000}, {n: 0x80000000}}},
		{0x80000001, [4]sized{{neg: true, n: 0x7fffffff}, {n: 0x80000001}, {n: 0x80000001}, {n: 0x80000001}}},
		{0xffffffff, [4]sized{{neg: true, n: 1}, {n: 0xffffffff}, {n: 0xffffffff}, {n: 0xffffffff}}},
		{0x100000000, [4]sized{{}, {}, {n: 0x100000000}, {n: 0x100000000}}},
		{0x180000000, [4]sized{{neg: true, n: 0x80000000}, {n: 0x80000000}, {n: 0x180000000}, {n: 0x180000000}}},
		{0x7fffffffffffffff, [4]sized{{neg: true, n: 1}, {n: 0xffffffff}, {n: 0x7fffffffffffffff}, {n: 0x7fffffffffffffff}}},
		{0x8000000000000000, [4]sized{{}, {}, {neg: true, n: 0x8000000000000000}, {n: 0x8000000000000000}}},
		{0x8000000000000001, [4]sized{{n: 1}, {n: 1}, {neg: true, n: 0x7fffffffffffffff}, {n: 0x8000000000000001}}},
		{0xfedcba9876543210, [4]sized{{n: 0x76543210}, {n: 0x76543210}, {neg: true, n: 0x0123456789abcdf0}, {n: 0xfedcba9876543210}}},
		{0xffffffff00000000, [4]sized{{}, {}, {neg: true, n: 0x100000000}, {n: 0xffffffff00000000}}},
		{0xffffffff7fffffff, [4]sized{{n: 0x7fffffff}, {n: 0x7fffffff}, {neg: true, n: 0x80000001}, {n: 0xffffffff7fffffff}}},
		{0xffffffff80000000, [4]sized{{neg: true, n: 0x80000000}, {n: 0x80000000}, {neg: true, n: 0x80000000}, {n: 0xffffffff80000000}}},
		{0xffffffffffffffff, [4]sized{{neg: true, n: 1}, {n: 0xffffffff}, {neg: true, n: 1}, {n: 0xffffffffffffffff}}},
	} {
		for k, want := range c.want {
			if got := told(Number(api.IntKind(k), c.x)); got != want {
				t.Errorf("Number(%d, %x): %v; wanted %v", k, c.x, got, want)
			}
		}
	}
}

// wantAll asks for the same answer of Convert by all modes.
func wantAll(t *testing.T, f api.Form, k api.IntKind, x uint64, want answer) {
	t.Helper()
	for _, m := range modes {
		if got := of(Convert(f, k, m, x)); got != want {
			t.Errorf("Convert(%d, %d, %d, %x): %v; wanted %v", f, k, m, x, got, want)
		}
	}
}

// P20.1: of 0 the zero whose sign is 0, by Down too; also where 0 stands in the lowest 32 bits alone.
func TestZero(t *testing.T) {
	for _, l := range layouts {
		for _, k := range spans {
			wantAll(t, l.form, k.kind, 0, answer{})
		}
		for _, x := range []uint64{1 << 32, 1 << 63, 0xffffffff00000000, 0x1234567800000000} {
			wantAll(t, l.form, api.W, x, answer{})
			wantAll(t, l.form, api.WU, x, answer{})
		}
	}
}

// byHand is a word, and what it is converted into by NearEven, ToZero, Down, Up, NearAway.
type byHand struct {
	k     api.IntKind
	x     int64
	want  [5]uint64
	flags [5]api.Flags
}

func checkHands(t *testing.T, f api.Form, list []byHand) {
	t.Helper()
	for _, c := range list {
		for _, m := range modes {
			if got := of(Convert(f, c.k, m, uint64(c.x))); got != (answer{b: lo(c.want[m]), flags: c.flags[m]}) {
				t.Errorf("Convert(%d, %d, %d, %x): %v; wanted %x, flags %d", f, c.k, m, uint64(c.x), got, c.want[m], c.flags[m])
			}
		}
	}
}

func all(x api.Flags) [5]api.Flags { return [5]api.Flags{x, x, x, x, x} }

func same(x uint64) [5]uint64 { return [5]uint64{x, x, x, x, x} }

// P20.1, by hand: into Half, about where its steps come to 2, and where it ends; both signs.
func TestIntoHalf(t *testing.T) {
	for _, k := range []api.IntKind{api.W, api.L} {
		checkHands(t, api.Half, []byHand{
			{k, 1, same(0x3c00), all(0)},
			{k, -1, same(0xbc00), all(0)},
			{k, 2047, same(0x67ff), all(0)},
			{k, 2048, same(0x6800), all(0)},
			{k, 2049, [5]uint64{0x6800, 0x6800, 0x6800, 0x6801, 0x6801}, all(nx)},
			{k, -2049, [5]uint64{0xe800, 0xe800, 0xe801, 0xe800, 0xe801}, all(nx)},
			{k, 2050, same(0x6801), all(0)},
			{k, 2051, [5]uint64{0x6802, 0x6801, 0x6801, 0x6802, 0x6802}, all(nx)},
			{k, -2051, [5]uint64{0xe802, 0xe801, 0xe802, 0xe801, 0xe802}, all(nx)},
			{k, 4095, [5]uint64{0x6c00, 0x6bff, 0x6bff, 0x6c00, 0x6c00}, all(nx)},
			{k, 65504, same(0x7bff), all(0)},
			{k, -65504, same(0xfbff), all(0)},
			{k, 65505, [5]uint64{0x7bff, 0x7bff, 0x7bff, 0x7c00, 0x7bff}, [5]api.Flags{nx, nx, nx, ofx, nx}},
			{k, 65519, [5]uint64{0x7bff, 0x7bff, 0x7bff, 0x7c00, 0x7bff}, [5]api.Flags{nx, nx, nx, ofx, nx}},
			{k, 65520, [5]uint64{0x7c00, 0x7bff, 0x7bff, 0x7c00, 0x7c00}, [5]api.Flags{ofx, nx, nx, ofx, ofx}},
			{k, 65535, [5]uint64{0x7c00, 0x7bff, 0x7bff, 0x7c00, 0x7c00}, [5]api.Flags{ofx, nx, nx, ofx, ofx}},
			{k, -65520, [5]uint64{0xfc00, 0xfbff, 0xfc00, 0xfbff, 0xfc00}, [5]api.Flags{ofx, nx, ofx, nx, ofx}},
			{k, 65536, [5]uint64{0x7c00, 0x7bff, 0x7bff, 0x7c00, 0x7c00}, all(ofx)},
			{k, -65536, [5]uint64{0xfc00, 0xfbff, 0xfc00, 0xfbff, 0xfc00}, all(ofx)},
			{k, math.MinInt32, [5]uint64{0xfc00, 0xfbff, 0xfc00, 0xfbff, 0xfc00}, all(ofx)},
		})
	}
	checkHands(t, api.Half, []byHand{
		{api.L, math.MinInt64, [5]uint64{0xfc00, 0xfbff, 0xfc00, 0xfbff, 0xfc00}, all(ofx)},
		{api.LU, math.MinInt64, [5]uint64{0x7c00, 0x7bff, 0x7bff, 0x7c00, 0x7c00}, all(ofx)},
		{api.LU, -1, [5]uint64{0x7c00, 0x7bff, 0x7bff, 0x7c00, 0x7c00}, all(ofx)},
		{api.WU, -1, [5]uint64{0x7c00, 0x7bff, 0x7bff, 0x7c00, 0x7c00}, all(ofx)},
		{api.WU, 1<<32 + 2049, [5]uint64{0x6800, 0x6800, 0x6800, 0x6801, 0x6801}, all(nx)},
	})
}

// P20.1, by hand: into Single, about where its steps come to 2, and at both ends of each kind.
func TestIntoSingle(t *testing.T) {
	checkHands(t, api.Single, []byHand{
		{api.W, 1<<24 - 1, same(0x4b7fffff), all(0)},
		{api.W, 1<<24 + 1, [5]uint64{0x4b800000, 0x4b800000, 0x4b800000, 0x4b800001, 0x4b800001}, all(nx)},
		{api.W, 1<<24 + 3, [5]uint64{0x4b800002, 0x4b800001, 0x4b800001, 0x4b800002, 0x4b800002}, all(nx)},
		{api.W, -1<<24 - 1, [5]uint64{0xcb800000, 0xcb800000, 0xcb800001, 0xcb800000, 0xcb800001}, all(nx)},
		{api.W, math.MaxInt32, [5]uint64{0x4f000000, 0x4effffff, 0x4effffff, 0x4f000000, 0x4f000000}, all(nx)},
		{api.W, math.MinInt32, same(0xcf000000), all(0)},
		{api.W, math.MinInt32 + 1, [5]uint64{0xcf000000, 0xceffffff, 0xcf000000, 0xceffffff, 0xcf000000}, all(nx)},
		{api.WU, math.MinInt32, same(0x4f000000), all(0)},
		{api.WU, -1, [5]uint64{0x4f800000, 0x4f7fffff, 0x4f7fffff, 0x4f800000, 0x4f800000}, all(nx)},
		{api.L, math.MaxInt64, [5]uint64{0x5f000000, 0x5effffff, 0x5effffff, 0x5f000000, 0x5f000000}, all(nx)},
		{api.L, math.MinInt64, same(0xdf000000), all(0)},
		{api.L, math.MinInt64 + 1, [5]uint64{0xdf000000, 0xdeffffff, 0xdf000000, 0xdeffffff, 0xdf000000}, all(nx)},
		{api.L, 1<<62 + 1<<38, [5]uint64{0x5e800000, 0x5e800000, 0x5e800000, 0x5e800001, 0x5e800001}, all(nx)},
		{api.L, 1<<62 + 1<<38 + 1, [5]uint64{0x5e800001, 0x5e800000, 0x5e800000, 0x5e800001, 0x5e800001}, all(nx)},
		{api.LU, math.MinInt64, same(0x5f000000), all(0)},
		{api.LU, -1, [5]uint64{0x5f800000, 0x5f7fffff, 0x5f7fffff, 0x5f800000, 0x5f800000}, all(nx)},
	})
}

// P20.1 and P20.2, by hand: into Double, about where its steps come to 2, and at both ends of each kind.
func TestIntoDouble(t *testing.T) {
	checkHands(t, api.Double, []byHand{
		{api.W, math.MaxInt32, same(0x41dfffffffc00000), all(0)},
		{api.W, math.MinInt32, same(0xc1e0000000000000), all(0)},
		{api.W, math.MinInt32 + 1, same(0xc1dfffffffc00000), all(0)},
		{api.WU, math.MinInt32, same(0x41e0000000000000), all(0)},
		{api.WU, -1, same(0x41efffffffe00000), all(0)},
		{api.L, 1<<53 - 1, same(0x433fffffffffffff), all(0)},
		{api.L, 1<<53 + 1, [5]uint64{0x4340000000000000, 0x4340000000000000, 0x4340000000000000, 0x4340000000000001, 0x4340000000000001}, all(nx)},
		{api.L, 1<<53 + 3, [5]uint64{0x4340000000000002, 0x4340000000000001, 0x4340000000000001, 0x4340000000000002, 0x4340000000000002}, all(nx)},
		{api.L, -1<<53 - 1, [5]uint64{0xc340000000000000, 0xc340000000000000, 0xc340000000000001, 0xc340000000000000, 0xc340000000000001}, all(nx)},
		{api.L, math.MaxInt64, [5]uint64{0x43e0000000000000, 0x43dfffffffffffff, 0x43dfffffffffffff, 0x43e0000000000000, 0x43e0000000000000}, all(nx)},
		{api.L, math.MinInt64, same(0xc3e0000000000000), all(0)},
		{api.LU, math.MinInt64, same(0x43e0000000000000), all(0)},
		{api.LU, -1, [5]uint64{0x43f0000000000000, 0x43efffffffffffff, 0x43efffffffffffff, 0x43f0000000000000, 0x43f0000000000000}, all(nx)},
		{api.LU, -1024, [5]uint64{0x43f0000000000000, 0x43efffffffffffff, 0x43efffffffffffff, 0x43f0000000000000, 0x43f0000000000000}, all(nx)},
		{api.LU, -1025, [5]uint64{0x43efffffffffffff, 0x43efffffffffffff, 0x43efffffffffffff, 0x43f0000000000000, 0x43efffffffffffff}, all(nx)},
		{api.LU, -2048, same(0x43efffffffffffff), all(0)},
	})
}

// P20.1 and P20.2, by hand: into Quad, at both ends of each kind.
func TestIntoQuad(t *testing.T) {
	for _, c := range []struct {
		k    api.IntKind
		x    int64
		want api.Bits
	}{
		{api.W, 1, hi(0x3fff000000000000)},
		{api.W, -1, hi(0xbfff000000000000)},
		{api.W, math.MaxInt32, hi(0x401dfffffffc0000)},
		{api.W, math.MinInt32, hi(0xc01e000000000000)},
		{api.WU, math.MinInt32, hi(0x401e000000000000)},
		{api.WU, -1, hi(0x401efffffffe0000)},
		{api.L, -1, hi(0xbfff000000000000)},
		{api.L, math.MaxInt64, api.Bits{Hi: 0x403dffffffffffff, Lo: 0xfffc000000000000}},
		{api.L, math.MinInt64, hi(0xc03e000000000000)},
		{api.L, math.MinInt64 + 1, api.Bits{Hi: 0xc03dffffffffffff, Lo: 0xfffc000000000000}},
		{api.LU, math.MinInt64, hi(0x403e000000000000)},
		{api.LU, -1, api.Bits{Hi: 0x403effffffffffff, Lo: 0xfffe000000000000}},
	} {
		wantAll(t, api.Quad, c.k, uint64(c.x), answer{b: c.want})
	}
}

// P20.1: the edges of the kinds, and of the words in them.
func TestEdges(t *testing.T) {
	eachFormat(t, func(t *testing.T, l layout) {
		s := l.seed(1)
		for _, x := range edges() {
			l.check(t, x)
			l.check(t, s.dirty(x))
		}
	})
}

// P20.1: the edges of the formats, at the neighbours and between them.
func TestFacingEdges(t *testing.T) {
	eachFormat(t, func(t *testing.T, l layout) {
		s := l.seed(2)
		for _, x := range l.facing() {
			l.check(t, x)
			l.check(t, s.dirty(x))
		}
	})
}

// P20.1: words all over.
func TestAllOver(t *testing.T) {
	eachFormat(t, func(t *testing.T, l layout) {
		s := l.seed(3)
		for range 6000 {
			x := s.any()
			l.check(t, x)
			l.check(t, s.dirty(x))
		}
	})
}

// P20.1: into Half all numbers of both signs up to where it ends, and beyond.
func TestAllIntoHalf(t *testing.T) {
	t.Parallel()
	half := layouts[0]
	for n := range uint64(1<<16 + 100) {
		half.check(t, n)
		half.check(t, -n)
	}
}

// ofFloat is what the language's own conversion makes of a word, by NearEven, as Single and as Double have it.
func ofFloat(k api.IntKind, x uint64) (single, double uint64) {
	var s float32
	var d float64
	switch k {
	case api.W:
		s, d = float32(int32(x)), float64(int32(x))
	case api.WU:
		s, d = float32(uint32(x)), float64(uint32(x))
	case api.L:
		s, d = float32(int64(x)), float64(int64(x))
	case api.LU:
		s, d = float32(x), float64(x)
	}
	return uint64(math.Float32bits(s)), math.Float64bits(d)
}

// P20.1: Single and Double, as the language's own floats have them.
func TestOwnFloats(t *testing.T) {
	t.Parallel()
	s := source(64)
	for i := range 60000 {
		x := s.any()
		k := api.IntKind(i % 4)
		single, double := ofFloat(k, x)
		if got := of(Convert(api.Single, k, api.NearEven, x)); got.b != lo(single) || got.e != api.OK {
			t.Errorf("Convert(Single, %d, NearEven, %x): %v; the float is %x", k, x, got, single)
		}
		if got := of(Convert(api.Double, k, api.NearEven, x)); got.b != lo(double) || got.e != api.OK {
			t.Errorf("Convert(Double, %d, NearEven, %x): %v; the float is %x", k, x, got, double)
		}
	}
}

// some are words for what follows.
func (l layout) some(n int) []uint64 {
	s := l.seed(n)
	list := append(edges(), l.facing()...)
	for range 3000 {
		x := s.any()
		list = append(list, x, s.dirty(x))
	}
	return list
}

// exactly is the number of a word as layer 6 has it.
func exactly(k api.IntKind, x uint64) api.Exact {
	switch k {
	case api.W:
		return exact.Whole(int64(int32(x)))
	case api.WU:
		return exact.Whole(int64(uint32(x)))
	case api.L:
		return exact.Whole(int64(x))
	}
	return exact.Word(x)
}

// P20.1: it is the rule's Round of the exact number.
func TestRule(t *testing.T) {
	eachFormat(t, func(t *testing.T, l layout) {
		for i, x := range l.some(4) {
			k, m := api.IntKind(i/5%4), modes[i%5]
			n := exactly(k, x)
			if exact.Sign(n) == 0 {
				continue
			}
			if got, want := of(Convert(l.form, k, m, x)), of(rule.Round(l.form, m, n)); got != want {
				t.Errorf("Convert(%d, %d, %d, %x): %v; the rule's %v", l.form, k, m, x, got, want)
			}
		}
	})
}

// P20.2: into Quad nothing is rounded, into Double nothing by W and WU: no flags, and by any mode the same.
func TestNothingRounded(t *testing.T) {
	t.Parallel()
	for _, l := range layouts[2:] {
		for _, k := range spans {
			if l.form == api.Double && k.size > 32 {
				continue
			}
			for _, x := range l.some(5) {
				want := of(Convert(l.form, k.kind, api.NearEven, x))
				if want.flags != 0 || want.e != api.OK {
					t.Errorf("Convert(%d, %d, NearEven, %x): %v", l.form, k.kind, x, want)
				}
				wantAll(t, l.form, k.kind, x, want)
			}
		}
	}
}

// P20.2: what was not rounded comes back as an x register has it; and just that: of a number that is on the grid there are no flags.
func TestThereAndBack(t *testing.T) {
	eachFormat(t, func(t *testing.T, l layout) {
		for _, k := range spans {
			found := 0
			for i, x := range l.some(6) {
				m := modes[i%5]
				n := k.number(x)
				below, above, _ := l.neighbours(n)
				is := below == above && n.CmpAbs(power(l.emax+1)) < 0
				there := of(Convert(l.form, k.kind, m, x))
				if is != (there.flags == 0) {
					t.Errorf("Convert(%d, %d, %d, %x): %v; rounded: %v", l.form, k.kind, m, x, there, !is)
				}
				if there.flags != 0 {
					continue
				}
				found++
				back, flags, e := toint.Convert(k.kind, l.form, m, there.b)
				if back != k.register(n) || flags != 0 || e != api.OK {
					t.Errorf("Convert(%d, %d, %d, %x): %v; back %x, flags %d, %v", l.form, k.kind, m, x, there, back, flags, e)
				}
			}
			if found == 0 {
				t.Errorf("of kind %d none comes back from format %d", k.kind, l.form)
			}
		}
	})
}

// P20.2, by hand: which word comes back, where more than a number's bits stands above it.
func TestBackByHand(t *testing.T) {
	for _, c := range []struct {
		k       api.IntKind
		x, back uint64
	}{
		{api.W, 0x1234567880000000, 0xffffffff80000000},
		{api.W, 0xffffffff7fffffff, 0x000000007fffffff},
		{api.W, 0x00000000ffffffff, 0xffffffffffffffff},
		{api.WU, 0x1234567880000000, 0xffffffff80000000},
		{api.WU, 0xffffffff7fffffff, 0x000000007fffffff},
		{api.WU, 0x00000000ffffffff, 0xffffffffffffffff},
		{api.L, 0x8000000000000000, 0x8000000000000000},
		{api.L, 0xffffffffffffffff, 0xffffffffffffffff},
		{api.L, 0x00000000ffffffff, 0x00000000ffffffff},
		{api.LU, 0x8000000000000000, 0x8000000000000000},
		{api.LU, 0xffffffffffffffff, 0xffffffffffffffff},
		{api.LU, 0x00000000ffffffff, 0x00000000ffffffff},
	} {
		b, flags, e := Convert(api.Quad, c.k, api.ToZero, c.x)
		back, more, fault := toint.Convert(c.k, api.Quad, api.ToZero, b)
		if back != c.back || flags != 0 || more != 0 || e != api.OK || fault != api.OK {
			t.Errorf("kind %d, %x: back %x, flags %d, %d, %v, %v; wanted %x", c.k, c.x, back, flags, more, e, fault, c.back)
		}
	}
}

var (
	nothing = answer{e: api.ErrArg}
	nought  = sized{e: api.ErrArg}
)

// words are such as are 0, are rounded, overflow, or do none of it.
var words = []uint64{0, 1, 2049, 65536, 1 << 31, 1 << 32, 1<<53 + 1, 1 << 63, top}

// P20.1: what is no kind, whatever is beside it.
func TestNoKind(t *testing.T) {
	for k := 4; k < 256; k++ {
		for _, x := range words {
			if got := told(Number(api.IntKind(k), x)); got != nought {
				t.Errorf("Number(%d, %x): %v", k, x, got)
			}
			for f := range 6 {
				for m := range 9 {
					if got := of(Convert(api.Form(f), api.IntKind(k), api.Mode(m), x)); got != nothing {
						t.Fatalf("Convert(%d, %d, %d, %x): %v", f, k, m, x, got)
					}
				}
			}
		}
	}
}

// P20.1: what is no format, whatever is beside it.
func TestNoFormat(t *testing.T) {
	for f := 4; f < 256; f++ {
		for _, x := range words {
			for k := range 6 {
				for m := range 9 {
					if got := of(Convert(api.Form(f), api.IntKind(k), api.Mode(m), x)); got != nothing {
						t.Fatalf("Convert(%d, %d, %d, %x): %v", f, k, m, x, got)
					}
				}
			}
		}
	}
}

// P20.1: what is no mode, Dyn too: also of 0, and where nothing would be rounded.
func TestNoMode(t *testing.T) {
	for m := 5; m < 256; m++ {
		for _, x := range words {
			for _, l := range layouts {
				for k := range 5 {
					if got := of(Convert(l.form, api.IntKind(k), api.Mode(m), x)); got != nothing {
						t.Fatalf("Convert(%d, %d, %d, %x): %v", l.form, k, m, x, got)
					}
				}
			}
		}
	}
}

// P0.1: whatever is handed in, answers that go together, or an error and nothing; a second time the same.
func TestWhatever(t *testing.T) {
	s := source(79)
	for range 40000 {
		f, k, m := api.Form(s.below(5)), api.IntKind(s.below(5)), api.Mode(s.below(6))
		x := s.any()
		got, size := of(Convert(f, k, m, x)), told(Number(k, x))
		if again, still := of(Convert(f, k, m, x)), told(Number(k, x)); again != got || still != size {
			t.Errorf("Convert, Number(%d, %d, %d, %x): %v, %v, then %v, %v", f, k, m, x, got, size, again, still)
		}
		if bad := f > 3 || k > 3 || m > 4; (got == nothing) != bad || (size == nought) != (k > 3) {
			t.Errorf("Convert, Number(%d, %d, %d, %x): %v, %v", f, k, m, x, got, size)
		}
		if got.flags != 0 && got.flags != nx && got.flags != ofx {
			t.Errorf("Convert(%d, %d, %d, %x): %v", f, k, m, x, got)
		}
		if size.neg && size.n == 0 || size.neg && size.n > 1<<63 {
			t.Errorf("Number(%d, %x): %v", k, x, size)
		}
	}
}

// The model's own words, held against numbers by hand, so that it does not go astray along with the program.
func TestModel(t *testing.T) {
	half := layouts[0]
	for _, c := range []struct {
		n    int64
		want answer
	}{
		{1, answer{b: lo(0x3c00)}},
		{-3, answer{b: lo(0xc200)}},
		{2051, answer{b: lo(0x6802), flags: nx}},
		{-65520, answer{b: lo(0xfc00), flags: ofx}},
	} {
		if got := half.rounded(api.NearEven, big.NewInt(c.n)); got != c.want {
			t.Errorf("the model of %d: %v; wanted %v", c.n, got, c.want)
		}
	}
}
