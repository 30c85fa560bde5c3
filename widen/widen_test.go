package widen

import (
	"math"
	"math/big"
	"strconv"
	"testing"

	"abacus/api"
	"abacus/exact"
	"abacus/kind"
	"abacus/rule"
	"abacus/shape"
)

const (
	nx = api.Inexact
	uf = api.Underflow | api.Inexact
	ov = api.Overflow | api.Inexact
	nv = api.Invalid
)

// check holds both calls of an encoding, by all modes, against what the model says.
func (p pair) check(t *testing.T, a api.Bits) {
	t.Helper()
	wants, is := p.wants(a)
	for m, want := range wants {
		m := api.Mode(m)
		if got := of(Convert(p.to.form, p.from.form, m, a)); got != want {
			t.Errorf("Convert(%d, %d, %d, %x): %v; wanted %v", p.to.form, p.from.form, m, a, got, want)
		}
	}
	if got := told(Fits(p.to.form, p.from.form, a)); got != (fit{is: is}) {
		t.Errorf("Fits(%d, %d, %x): %v; wanted %v", p.to.form, p.from.form, a, got, is)
	}
}

// eachPair runs a test on each two formats, all at the same time as one another and as other tests.
func eachPair(t *testing.T, test func(t *testing.T, p pair)) {
	t.Parallel()
	for _, p := range pairs() {
		t.Run(strconv.Itoa(p.from.w)+"to"+strconv.Itoa(p.to.w), func(t *testing.T) {
			t.Parallel()
			test(t, p)
		})
	}
}

// seed is another one for each two formats and each test.
func (p pair) seed(n int) source { return source(n<<16 + p.to.w<<8 + p.from.w) }

func lo(x uint64) api.Bits { return api.Bits{Lo: x} }

func hi(x uint64) api.Bits { return api.Bits{Hi: x} }

// The chapter's examples.
func TestExamples(t *testing.T) {
	for _, c := range []struct {
		to, from api.Form
		a, b     uint64
		flags    api.Flags
	}{
		{api.Single, api.Half, 0x3c00, 0x3f800000, 0},
		{api.Half, api.Double, 0x3ff0000000000000, 0x3c00, 0},
		{api.Half, api.Single, 0x477fe000, 0x7bff, 0},
		{api.Half, api.Single, 0x477ff000, 0x7c00, ov},
		{api.Half, api.Single, 0x7fa00000, 0x7e00, nv},
		{api.Half, api.Single, 0xffc00000, 0x7e00, 0},
	} {
		if got := of(Convert(c.to, c.from, api.NearEven, lo(c.a))); got != (answer{b: lo(c.b), flags: c.flags}) {
			t.Errorf("Convert(%d, %d, NearEven, %x): %v", c.to, c.from, c.a, got)
		}
	}
	for a, want := range map[uint64]bool{0x3f800000: true, 0x3eaaaaab: false} {
		if got := told(Fits(api.Half, api.Single, lo(a))); got != (fit{is: want}) {
			t.Errorf("Fits(Half, Single, %x): %v", a, got)
		}
	}
}

// outstanding are encodings that each format has, by hand: what one of them is in another format is its own there. NaNs stand at the ends of their kinds, with both signs.
var outstanding = []struct {
	form                                       api.Form
	zero, negZero, one, half, inf, negInf, nan api.Bits
	quiet, signaling                           []api.Bits
}{
	{
		form: api.Half, negZero: lo(0x8000), one: lo(0x3c00), half: lo(0x3800), inf: lo(0x7c00), negInf: lo(0xfc00), nan: lo(0x7e00),
		quiet:     []api.Bits{lo(0x7e00), lo(0xfe00), lo(0x7e01), lo(0x7fff), lo(0xffff)},
		signaling: []api.Bits{lo(0x7c01), lo(0xfc01), lo(0x7d00), lo(0x7dff), lo(0xfdff)},
	},
	{
		form: api.Single, negZero: lo(0x80000000), one: lo(0x3f800000), half: lo(0x3f000000), inf: lo(0x7f800000), negInf: lo(0xff800000), nan: lo(0x7fc00000),
		quiet:     []api.Bits{lo(0x7fc00000), lo(0xffc00000), lo(0x7fc00001), lo(0x7fffffff), lo(0xffffffff)},
		signaling: []api.Bits{lo(0x7f800001), lo(0xff800001), lo(0x7fa00000), lo(0x7fbfffff), lo(0xffbfffff)},
	},
	{
		form: api.Double, negZero: lo(0x8000000000000000), one: lo(0x3ff0000000000000), half: lo(0x3fe0000000000000), inf: lo(0x7ff0000000000000), negInf: lo(0xfff0000000000000), nan: lo(0x7ff8000000000000),
		quiet:     []api.Bits{lo(0x7ff8000000000000), lo(0xfff8000000000000), lo(0x7ff8000000000001), lo(0x7fffffffffffffff), lo(0xffffffffffffffff)},
		signaling: []api.Bits{lo(0x7ff0000000000001), lo(0xfff0000000000001), lo(0x7ff4000000000000), lo(0x7ff7ffffffffffff), lo(0xfff7ffffffffffff)},
	},
	{
		form: api.Quad, negZero: hi(0x8000000000000000), one: hi(0x3fff000000000000), half: hi(0x3ffe000000000000), inf: hi(0x7fff000000000000), negInf: hi(0xffff000000000000), nan: hi(0x7fff800000000000),
		quiet:     []api.Bits{hi(0x7fff800000000000), hi(0xffff800000000000), {Hi: 0x7fff800000000000, Lo: 1}, {Hi: 0x7fffffffffffffff, Lo: math.MaxUint64}, {Hi: math.MaxUint64, Lo: math.MaxUint64}},
		signaling: []api.Bits{{Hi: 0x7fff000000000000, Lo: 1}, {Hi: 0xffff000000000000, Lo: 1}, hi(0x7fff400000000000), {Hi: 0x7fff7fffffffffff, Lo: math.MaxUint64}, {Hi: 0xffff7fffffffffff, Lo: math.MaxUint64}},
	},
}

// wantAll asks for the same answer by all modes.
func wantAll(t *testing.T, to, from api.Form, a api.Bits, want answer, fits bool) {
	t.Helper()
	for _, m := range modes {
		if got := of(Convert(to, from, m, a)); got != want {
			t.Errorf("Convert(%d, %d, %d, %x): %v; wanted %v", to, from, m, a, got, want)
		}
	}
	if got := told(Fits(to, from, a)); got != (fit{is: fits}) {
		t.Errorf("Fits(%d, %d, %x): %v; wanted %v", to, from, a, got, fits)
	}
}

// P18.1 and P18.2, by hand: each of the cases where nothing is rounded, from each format into each.
func TestCases(t *testing.T) {
	for _, to := range outstanding {
		for _, from := range outstanding {
			for _, a := range from.quiet {
				wantAll(t, to.form, from.form, a, answer{b: to.nan}, false)
			}
			for _, a := range from.signaling {
				wantAll(t, to.form, from.form, a, answer{b: to.nan, flags: nv}, false)
			}
			wantAll(t, to.form, from.form, from.inf, answer{b: to.inf}, true)
			wantAll(t, to.form, from.form, from.negInf, answer{b: to.negInf}, true)
			wantAll(t, to.form, from.form, from.zero, answer{}, true)
			wantAll(t, to.form, from.form, from.negZero, answer{b: to.negZero}, true)
			wantAll(t, to.form, from.form, from.one, answer{b: to.one}, true)
			wantAll(t, to.form, from.form, from.half, answer{b: to.half}, true)
		}
	}
}

// byHand is an encoding, and what it is converted into by NearEven, ToZero, Down, Up, NearAway.
type byHand struct {
	a     api.Bits
	want  [5]uint64
	flags [5]api.Flags
}

func checkHands(t *testing.T, to, from api.Form, list []byHand) {
	t.Helper()
	for _, c := range list {
		for _, m := range modes {
			if got := of(Convert(to, from, m, c.a)); got != (answer{b: lo(c.want[m]), flags: c.flags[m]}) {
				t.Errorf("Convert(%d, %d, %d, %x): %v; wanted %x, flags %d", to, from, m, c.a, got, c.want[m], c.flags[m])
			}
		}
	}
}

func all(x api.Flags) [5]api.Flags { return [5]api.Flags{x, x, x, x, x} }

// P18.1, by hand: Single into Half, at each edge that has a name in the document.
func TestSingleIntoHalf(t *testing.T) {
	checkHands(t, api.Half, api.Single, []byHand{
		// Between two normal numbers: near to one, at the middle, beside it.
		{lo(0x3f800001), [5]uint64{0x3c00, 0x3c00, 0x3c00, 0x3c01, 0x3c00}, all(nx)},
		{lo(0x3f800fff), [5]uint64{0x3c00, 0x3c00, 0x3c00, 0x3c01, 0x3c00}, all(nx)},
		{lo(0x3f801000), [5]uint64{0x3c00, 0x3c00, 0x3c00, 0x3c01, 0x3c01}, all(nx)},
		{lo(0x3f801001), [5]uint64{0x3c01, 0x3c00, 0x3c00, 0x3c01, 0x3c01}, all(nx)},
		{lo(0x3f802000), [5]uint64{0x3c01, 0x3c01, 0x3c01, 0x3c01, 0x3c01}, all(0)},
		{lo(0x3f803000), [5]uint64{0x3c02, 0x3c01, 0x3c01, 0x3c02, 0x3c02}, all(nx)},
		{lo(0xbf801000), [5]uint64{0xbc00, 0xbc00, 0xbc01, 0xbc00, 0xbc01}, all(nx)},
		{lo(0xbf803000), [5]uint64{0xbc02, 0xbc01, 0xbc02, 0xbc01, 0xbc02}, all(nx)},
		{lo(0x3fffffff), [5]uint64{0x4000, 0x3fff, 0x3fff, 0x4000, 0x4000}, all(nx)},
		{lo(0x3eaaaaab), [5]uint64{0x3555, 0x3555, 0x3555, 0x3556, 0x3555}, all(nx)},
		// The greatest numbers: it overflows just where what is rounded comes to 2^16.
		{lo(0x477fe000), [5]uint64{0x7bff, 0x7bff, 0x7bff, 0x7bff, 0x7bff}, all(0)},
		{lo(0x477fe001), [5]uint64{0x7bff, 0x7bff, 0x7bff, 0x7c00, 0x7bff}, [5]api.Flags{nx, nx, nx, ov, nx}},
		{lo(0x477fefff), [5]uint64{0x7bff, 0x7bff, 0x7bff, 0x7c00, 0x7bff}, [5]api.Flags{nx, nx, nx, ov, nx}},
		{lo(0x477ff000), [5]uint64{0x7c00, 0x7bff, 0x7bff, 0x7c00, 0x7c00}, [5]api.Flags{ov, nx, nx, ov, ov}},
		{lo(0xc77ff000), [5]uint64{0xfc00, 0xfbff, 0xfc00, 0xfbff, 0xfc00}, [5]api.Flags{ov, nx, ov, nx, ov}},
		{lo(0x47800000), [5]uint64{0x7c00, 0x7bff, 0x7bff, 0x7c00, 0x7c00}, all(ov)},
		{lo(0xc7800000), [5]uint64{0xfc00, 0xfbff, 0xfc00, 0xfbff, 0xfc00}, all(ov)},
		{lo(0x7f7fffff), [5]uint64{0x7c00, 0x7bff, 0x7bff, 0x7c00, 0x7c00}, all(ov)},
		// Subnormal numbers, and what is below the least one.
		{lo(0x33800000), [5]uint64{0x0001, 0x0001, 0x0001, 0x0001, 0x0001}, all(0)},
		{lo(0x33000000), [5]uint64{0x0000, 0x0000, 0x0000, 0x0001, 0x0001}, all(uf)},
		{lo(0x33000001), [5]uint64{0x0001, 0x0000, 0x0000, 0x0001, 0x0001}, all(uf)},
		{lo(0x32ffffff), [5]uint64{0x0000, 0x0000, 0x0000, 0x0001, 0x0000}, all(uf)},
		{lo(0xb3000000), [5]uint64{0x8000, 0x8000, 0x8001, 0x8000, 0x8001}, all(uf)},
		{lo(0x33c00000), [5]uint64{0x0002, 0x0001, 0x0001, 0x0002, 0x0002}, all(uf)},
		{lo(0x00000001), [5]uint64{0x0000, 0x0000, 0x0000, 0x0001, 0x0000}, all(uf)},
		{lo(0x80000001), [5]uint64{0x8000, 0x8000, 0x8001, 0x8000, 0x8000}, all(uf)},
		{lo(0x007fffff), [5]uint64{0x0000, 0x0000, 0x0000, 0x0001, 0x0000}, all(uf)},
		// About the least normal number: tiny by what it would be with no least exponent.
		{lo(0x387fc000), [5]uint64{0x03ff, 0x03ff, 0x03ff, 0x03ff, 0x03ff}, all(0)},
		{lo(0x38800000), [5]uint64{0x0400, 0x0400, 0x0400, 0x0400, 0x0400}, all(0)},
		{lo(0x387fe000), [5]uint64{0x0400, 0x03ff, 0x03ff, 0x0400, 0x0400}, all(uf)},
		{lo(0x387fefff), [5]uint64{0x0400, 0x03ff, 0x03ff, 0x0400, 0x0400}, [5]api.Flags{uf, uf, uf, nx, uf}},
		{lo(0x387ff000), [5]uint64{0x0400, 0x03ff, 0x03ff, 0x0400, 0x0400}, [5]api.Flags{nx, uf, uf, nx, nx}},
		{lo(0xb87ff000), [5]uint64{0x8400, 0x83ff, 0x8400, 0x83ff, 0x8400}, [5]api.Flags{nx, uf, nx, uf, nx}},
	})
}

// P18.1, by hand: other formats into narrower ones; a number is rounded once, not on its way through a format between.
func TestIntoNarrower(t *testing.T) {
	checkHands(t, api.Half, api.Double, []byHand{
		{lo(0x3ff0020000000000), [5]uint64{0x3c00, 0x3c00, 0x3c00, 0x3c01, 0x3c01}, all(nx)},
		{lo(0x3ff0020000000001), [5]uint64{0x3c01, 0x3c00, 0x3c00, 0x3c01, 0x3c01}, all(nx)},
		{lo(0x3ff005ffffffffff), [5]uint64{0x3c01, 0x3c01, 0x3c01, 0x3c02, 0x3c01}, all(nx)},
		{lo(0x0000000000000001), [5]uint64{0x0000, 0x0000, 0x0000, 0x0001, 0x0000}, all(uf)},
		{lo(0xffefffffffffffff), [5]uint64{0xfc00, 0xfbff, 0xfc00, 0xfbff, 0xfc00}, all(ov)},
	})
	checkHands(t, api.Single, api.Double, []byHand{
		{lo(0x3ff0000010000000), [5]uint64{0x3f800000, 0x3f800000, 0x3f800000, 0x3f800001, 0x3f800001}, all(nx)},
		{lo(0x3ff0000030000000), [5]uint64{0x3f800002, 0x3f800001, 0x3f800001, 0x3f800002, 0x3f800002}, all(nx)},
		{lo(0x47efffffe0000000), [5]uint64{0x7f7fffff, 0x7f7fffff, 0x7f7fffff, 0x7f7fffff, 0x7f7fffff}, all(0)},
		{lo(0x47efffffefffffff), [5]uint64{0x7f7fffff, 0x7f7fffff, 0x7f7fffff, 0x7f800000, 0x7f7fffff}, [5]api.Flags{nx, nx, nx, ov, nx}},
		{lo(0x47effffff0000000), [5]uint64{0x7f800000, 0x7f7fffff, 0x7f7fffff, 0x7f800000, 0x7f800000}, [5]api.Flags{ov, nx, nx, ov, ov}},
		{lo(0x36a0000000000000), [5]uint64{1, 1, 1, 1, 1}, all(0)},
		{lo(0x3690000000000000), [5]uint64{0, 0, 0, 1, 1}, all(uf)},
	})
	checkHands(t, api.Double, api.Quad, []byHand{
		{api.Bits{Hi: 0x3fff000000000000, Lo: 0x0800000000000000}, [5]uint64{0x3ff0000000000000, 0x3ff0000000000000, 0x3ff0000000000000, 0x3ff0000000000001, 0x3ff0000000000001}, all(nx)},
		{api.Bits{Hi: 0x3fff000000000000, Lo: 0x0800000000000001}, [5]uint64{0x3ff0000000000001, 0x3ff0000000000000, 0x3ff0000000000000, 0x3ff0000000000001, 0x3ff0000000000001}, all(nx)},
		{api.Bits{Hi: 0x3fff000000000000, Lo: 0x1800000000000000}, [5]uint64{0x3ff0000000000002, 0x3ff0000000000001, 0x3ff0000000000001, 0x3ff0000000000002, 0x3ff0000000000002}, all(nx)},
		{api.Bits{Hi: 0x43feffffffffffff, Lo: 0xf000000000000000}, [5]uint64{0x7fefffffffffffff, 0x7fefffffffffffff, 0x7fefffffffffffff, 0x7fefffffffffffff, 0x7fefffffffffffff}, all(0)},
		{api.Bits{Hi: 0x43feffffffffffff, Lo: 0xf800000000000000}, [5]uint64{0x7ff0000000000000, 0x7fefffffffffffff, 0x7fefffffffffffff, 0x7ff0000000000000, 0x7ff0000000000000}, [5]api.Flags{ov, nx, nx, ov, ov}},
		{hi(0x3bcd000000000000), [5]uint64{1, 1, 1, 1, 1}, all(0)},
		{hi(0x3bcc000000000000), [5]uint64{0, 0, 0, 1, 1}, all(uf)},
	})
	checkHands(t, api.Single, api.Quad, []byHand{
		{api.Bits{Hi: 0x3fff000001000000, Lo: 1}, [5]uint64{0x3f800001, 0x3f800000, 0x3f800000, 0x3f800001, 0x3f800001}, all(nx)},
		{hi(0x7ffe000000000000), [5]uint64{0x7f800000, 0x7f7fffff, 0x7f7fffff, 0x7f800000, 0x7f800000}, all(ov)},
	})
	checkHands(t, api.Half, api.Quad, []byHand{
		{api.Bits{Hi: 0x3fff002000000000, Lo: 1}, [5]uint64{0x3c01, 0x3c00, 0x3c00, 0x3c01, 0x3c01}, all(nx)},
		{api.Bits{Hi: 0xbffeffffffffffff, Lo: math.MaxUint64}, [5]uint64{0xbc00, 0xbbff, 0xbc00, 0xbbff, 0xbc00}, all(nx)},
		{lo(1), [5]uint64{0, 0, 0, 1, 0}, all(uf)},
		{api.Bits{Hi: 0xfffeffffffffffff, Lo: math.MaxUint64}, [5]uint64{0xfc00, 0xfbff, 0xfc00, 0xfbff, 0xfc00}, all(ov)},
	})
}

// P18.1 to P18.3, by hand: into wider formats, where subnormal numbers become normal ones.
func TestIntoWider(t *testing.T) {
	for _, c := range []struct {
		to, from api.Form
		a        uint64
		want     api.Bits
	}{
		{api.Single, api.Half, 0x0001, lo(0x33800000)},
		{api.Single, api.Half, 0x8001, lo(0xb3800000)},
		{api.Single, api.Half, 0x03ff, lo(0x387fc000)},
		{api.Single, api.Half, 0x0400, lo(0x38800000)},
		{api.Single, api.Half, 0xfbff, lo(0xc77fe000)},
		{api.Double, api.Half, 0x0001, lo(0x3e70000000000000)},
		{api.Double, api.Half, 0x3555, lo(0x3fd5540000000000)},
		{api.Double, api.Half, 0x7bff, lo(0x40effc0000000000)},
		{api.Quad, api.Half, 0x0001, hi(0x3fe7000000000000)},
		{api.Quad, api.Half, 0x7bff, hi(0x400effc000000000)},
		{api.Double, api.Single, 0x00000001, lo(0x36a0000000000000)},
		{api.Double, api.Single, 0x7f7fffff, lo(0x47efffffe0000000)},
		{api.Quad, api.Single, 0x80000001, hi(0xbf6a000000000000)},
		{api.Quad, api.Double, 0x0000000000000001, hi(0x3bcd000000000000)},
		{api.Quad, api.Double, 0xffefffffffffffff, api.Bits{Hi: 0xc3feffffffffffff, Lo: 0xf000000000000000}},
	} {
		wantAll(t, c.to, c.from, lo(c.a), answer{b: c.want}, true)
	}
}

// P18.2, by hand: numbers that a narrower format has, and such as are beside them.
func TestFitsByHand(t *testing.T) {
	for a, want := range map[uint64]bool{
		0x3f800000: true, 0x3f802000: true, 0x3f803000: false, 0x3f801000: false, 0x3f800001: false, 0xbf802000: true, 0xbf800001: false,
		0x477fe000: true, 0xc77fe000: true, 0x477fe001: false, 0x477ff000: false, 0x47800000: false, 0x7f000000: false, 0x7f7fffff: false, 0xff7fffff: false,
		0x38800000: true, 0x387fc000: true, 0x387fe000: false, 0x38801000: false, 0x33800000: true, 0xb3800000: true, 0x34000000: true, 0x34400000: true,
		0x33c00000: false, 0x33000000: false, 0x00800000: false, 0x00000001: false, 0x80000001: false,
	} {
		if got := told(Fits(api.Half, api.Single, lo(a))); got != (fit{is: want}) {
			t.Errorf("Fits(Half, Single, %x): %v; wanted %v", a, got, want)
		}
	}
	for _, c := range []struct {
		to   api.Form
		a    api.Bits
		want bool
	}{
		{api.Double, api.Bits{Hi: 0x3fff000000000000, Lo: 0x1000000000000000}, true},
		{api.Double, api.Bits{Hi: 0x3fff000000000000, Lo: 0x0800000000000000}, false},
		{api.Double, api.Bits{Hi: 0x3fff000000000000, Lo: 0x1000000000000001}, false},
		{api.Single, hi(0x3fff000002000000), true},
		{api.Single, hi(0x3fff000001000000), false},
		{api.Single, api.Bits{Hi: 0x3fff000002000000, Lo: 1}, false},
		{api.Half, hi(0x3fff004000000000), true},
		{api.Half, hi(0x3fff002000000000), false},
		{api.Half, hi(0x3fe7000000000000), true},
		{api.Half, hi(0x3fe6000000000000), false},
		{api.Half, lo(1), false},
		{api.Half, hi(0x7ffe000000000000), false},
		{api.Double, hi(0x3bcd000000000000), true},
		{api.Double, hi(0x3bcc000000000000), false},
		{api.Quad, lo(1), true},
		{api.Quad, api.Bits{Hi: 0x7ffeffffffffffff, Lo: math.MaxUint64}, true},
	} {
		if got := told(Fits(c.to, api.Quad, c.a)); got != (fit{is: c.want}) {
			t.Errorf("Fits(%d, Quad, %x): %v; wanted %v", c.to, c.a, got, c.want)
		}
	}
}

// P18.1 and P18.2: the edges of the format that is converted from.
func TestEdges(t *testing.T) {
	eachPair(t, func(t *testing.T, p pair) {
		for _, a := range p.from.edges() {
			p.check(t, a)
		}
	})
}

// P18.1 and P18.2: the edges of the format that is converted into, at its numbers and between them.
func TestFacingEdges(t *testing.T) {
	eachPair(t, func(t *testing.T, p pair) {
		for _, a := range p.facing() {
			p.check(t, a)
		}
	})
}

// P18.1 and P18.2: exponents all over, and subnormal numbers of each length.
func TestExponents(t *testing.T) {
	eachPair(t, func(t *testing.T, p pair) {
		s := p.seed(1)
		l := p.from
		last := int(new(big.Int).Rsh(l.inf(), uint(l.p-1)).Int64())
		for field := 0; field < last; field += 1 + s.below(2+last/300) {
			at := raise(small(int64(field)), l.p-1)
			p.check(t, l.bits(false, at))
			p.check(t, l.bits(field%2 == 0, new(big.Int).Add(at, s.bits(l.p-1))))
			p.check(t, l.bits(field%2 == 1, new(big.Int).Add(at, raise(s.bits(3), s.below(l.p-3)))))
		}
		for n := range l.p - 1 {
			p.check(t, l.bits(n%2 == 0, power(n)))
			p.check(t, l.bits(n%2 == 1, beside(power(n+1), -1)))
		}
	})
}

// P18.1 and P18.2: numbers of one bit and of two, at each distance of the two, also where the exponents of the other format begin and end: what is lost stands in either word.
func TestTwoBits(t *testing.T) {
	eachPair(t, func(t *testing.T, p pair) {
		l := p.from
		for _, at := range []*big.Int{small(0), l.one(), l.place(magnitude{small(1), p.to.emin()}), l.place(magnitude{small(1), p.to.emax})} {
			for n := range l.p - 1 {
				p.check(t, l.bits(n%2 == 0, new(big.Int).Add(at, power(n))))
			}
		}
	})
}

// P18.1 and P18.2: encodings all over, and such as are about numbers of the other format.
func TestAllOver(t *testing.T) {
	eachPair(t, func(t *testing.T, p pair) {
		s := p.seed(2)
		for range 1500 {
			p.check(t, p.from.any(&s))
			p.check(t, p.near(&s))
		}
	})
}

// halfValue is what a finite encoding of Half is.
func halfValue(a uint64) float64 {
	sign := 1.0
	if a>>15 == 1 {
		sign = -1
	}
	field, fraction := int(a>>10&31), float64(a&1023)
	if field == 0 {
		return math.Copysign(math.Ldexp(fraction, -24), sign)
	}
	return sign * math.Ldexp(fraction+1024, field-25)
}

// P18.1 to P18.3: all encodings of Half into each format by all modes. The language's own floats tell what it is.
func TestAllHalf(t *testing.T) {
	t.Parallel()
	for a := range uint64(1 << 16) {
		single, double, half, quad := answer{}, answer{}, answer{b: lo(a)}, answer{}
		if a&0x7fff > 0x7c00 {
			var flags api.Flags
			if a&0x200 == 0 {
				flags = nv
			}
			single, double, half, quad = answer{b: lo(0x7fc00000), flags: flags}, answer{b: lo(0x7ff8000000000000), flags: flags}, answer{b: lo(0x7e00), flags: flags}, answer{b: hi(0x7fff800000000000), flags: flags}
		} else {
			x := halfValue(a)
			if a&0x7fff == 0x7c00 {
				x = math.Inf(1 - 2*int(a>>15))
			}
			single.b, double.b, quad.b = lo(uint64(math.Float32bits(float32(x)))), lo(math.Float64bits(x)), quadOf(x)
		}
		fits := a&0x7fff <= 0x7c00
		wantAll(t, api.Half, api.Half, lo(a), half, fits)
		wantAll(t, api.Single, api.Half, lo(a), single, fits)
		wantAll(t, api.Double, api.Half, lo(a), double, fits)
		wantAll(t, api.Quad, api.Half, lo(a), quad, fits)
	}
}

// quadOf is the Quad of a float whose encoding as a Double is normal, or a zero or an infinity: its field counted from another middle, its fraction 60 places higher.
func quadOf(x float64) api.Bits {
	b := math.Float64bits(x)
	sign, field, fraction := b>>63<<63, b>>52&2047, b<<12>>12
	switch field {
	case 0:
		return hi(sign)
	case 2047:
		return hi(sign | 0x7fff<<48)
	}
	return api.Bits{Hi: sign | (field+16383-1023)<<48 | fraction>>4, Lo: fraction << 60}
}

// P18.1: the language's own conversions between floats, by NearEven.
func TestOwnFloats(t *testing.T) {
	t.Parallel()
	single, double := layouts[1], layouts[2]
	narrow, broad := pair{single, double}, pair{double, single}
	s := source(64)
	for range 40000 {
		for _, a := range []api.Bits{double.any(&s), narrow.near(&s)} {
			x := math.Float64frombits(a.Lo)
			want := lo(uint64(math.Float32bits(float32(x))))
			if x != x {
				want = single.nan()
			}
			if got := of(Convert(api.Single, api.Double, api.NearEven, a)); got.b != want || got.e != api.OK {
				t.Errorf("Convert(Single, Double, NearEven, %x): %v; the float is %x", a, got, want)
			}
			if got := told(Fits(api.Single, api.Double, a)); got != (fit{is: float64(float32(x)) == x}) {
				t.Errorf("Fits(Single, Double, %x): %v", a, got)
			}
		}
		for _, a := range []api.Bits{single.any(&s), broad.near(&s)} {
			x := math.Float32frombits(uint32(a.Lo))
			want := lo(math.Float64bits(float64(x)))
			if x != x {
				want = double.nan()
			}
			if got := of(Convert(api.Double, api.Single, api.NearEven, a)); got.b != want || got.e != api.OK || got.flags&^nv != 0 {
				t.Errorf("Convert(Double, Single, NearEven, %x): %v; the float is %x", a, got, want)
			}
		}
	}
}

// P18.1: of numbers that are not 0 it is the rule's Round of the exact value; P18.2: what fits is what Of finds.
func TestRule(t *testing.T) {
	eachPair(t, func(t *testing.T, p pair) {
		s := p.seed(3)
		for i := range 600 {
			a, m := p.from.any(&s), modes[i%5]
			if i%2 == 0 {
				a = p.near(&s)
			}
			x, e := kind.Value(p.from.form, a)
			if e != api.OK || exact.Sign(x) == 0 {
				continue
			}
			if got, want := of(Convert(p.to.form, p.from.form, m, a)), of(rule.Round(p.to.form, m, x)); got != want {
				t.Errorf("Convert(%d, %d, %d, %x): %v; the rule's %v", p.to.form, p.from.form, m, a, got, want)
			}
			_, is, _ := kind.Of(p.to.form, x)
			if got := told(Fits(p.to.form, p.from.form, a)); got != (fit{is: is}) {
				t.Errorf("Fits(%d, %d, %x): %v; Of says %v", p.to.form, p.from.form, a, got, is)
			}
		}
	})
}

// some are encodings of from for what follows.
func (p pair) some(n int) []api.Bits {
	s := p.seed(n)
	list := append(p.from.edges(), p.facing()...)
	for range 3000 {
		list = append(list, p.from.any(&s), p.near(&s))
	}
	return list
}

// P18.3: into a format that is no narrower nothing is rounded, and back again it is the same.
func TestThereAndBack(t *testing.T) {
	eachPair(t, func(t *testing.T, p pair) {
		if p.to.w < p.from.w {
			return
		}
		for i, a := range p.some(4) {
			p.checkBack(t, modes[i%5], modes[i/5%5], a)
		}
	})
}

func (p pair) checkBack(t *testing.T, m, other api.Mode, a api.Bits) {
	t.Helper()
	want, flags := a, api.Flags(0)
	_, i := p.from.split(a)
	nan := i.Cmp(p.from.inf()) > 0
	if nan {
		want = p.from.nan()
	}
	if nan && i.Cmp(p.from.quiet()) < 0 {
		flags = nv
	}
	there := of(Convert(p.to.form, p.from.form, m, a))
	if there.flags != flags || there.e != api.OK {
		t.Errorf("Convert(%d, %d, %d, %x): %v; wanted flags %d", p.to.form, p.from.form, m, a, there, flags)
	}
	if back := of(Convert(p.from.form, p.to.form, other, there.b)); back != (answer{b: want}) {
		t.Errorf("Convert(%d, %d, %d, %x), which was %x: %v", p.from.form, p.to.form, other, there.b, a, back)
	}
	if got := told(Fits(p.to.form, p.from.form, a)); got != (fit{is: !nan}) {
		t.Errorf("Fits(%d, %d, %x): %v", p.to.form, p.from.form, a, got)
	}
	if got := told(Fits(p.from.form, p.to.form, there.b)); got != (fit{is: !nan}) {
		t.Errorf("Fits(%d, %d, %x), which was %x: %v", p.from.form, p.to.form, there.b, a, got)
	}
}

// P18.3: what is no NaN fits just if it raises nothing by ToZero; then it raises nothing by any mode, and comes back the same.
func TestFitsAsToZero(t *testing.T) {
	eachPair(t, func(t *testing.T, p pair) {
		found := [2]int{}
		for _, a := range p.some(5) {
			if _, i := p.from.split(a); i.Cmp(p.from.inf()) > 0 {
				continue
			}
			cut := of(Convert(p.to.form, p.from.form, api.ToZero, a))
			got := told(Fits(p.to.form, p.from.form, a))
			if got != (fit{is: cut.flags == 0}) {
				t.Errorf("Fits(%d, %d, %x): %v; by ToZero %v", p.to.form, p.from.form, a, got, cut)
			}
			if !got.is {
				found[0]++
				continue
			}
			found[1]++
			wantAll(t, p.to.form, p.from.form, a, cut, true)
			wantAll(t, p.from.form, p.to.form, cut.b, answer{b: a}, true)
		}
		if found[1] == 0 || (found[0] == 0) != (p.to.w >= p.from.w) {
			t.Errorf("from %d into %d: %d do not fit, %d do", p.from.form, p.to.form, found[0], found[1])
		}
	})
}

var (
	nothing = answer{e: api.ErrArg}
	noFit   = fit{e: api.ErrArg}
)

// P18.1 and P18.2: what is no format, on either side, and what is no mode, whatever is beside it.
func TestNoFormatNoMode(t *testing.T) {
	list := []api.Bits{{}, lo(0x8000), lo(0x3c00), lo(0x7c00), lo(0xbc00), lo(0x7c01), lo(0x7e00), {Hi: 1 << 63, Lo: 1}}
	for f := range 256 {
		for other := range 6 {
			for _, a := range list {
				for _, p := range [][2]int{{f, other}, {other, f}} {
					to, from := api.Form(p[0]), api.Form(p[1])
					if p[0] < 4 && p[1] < 4 {
						continue
					}
					if got := told(Fits(to, from, a)); got != noFit {
						t.Fatalf("Fits(%d, %d, %x): %v", to, from, a, got)
					}
					for _, m := range []api.Mode{0, 1, 2, 3, 4, 5, 7, 255} {
						if got := of(Convert(to, from, m, a)); got != nothing {
							t.Fatalf("Convert(%d, %d, %d, %x): %v", to, from, m, a, got)
						}
					}
				}
			}
		}
	}
}

// P18.1: what is no mode, Dyn too, of all kinds of encodings: also where nothing would be rounded.
func TestNoMode(t *testing.T) {
	for _, to := range outstanding {
		for _, from := range outstanding {
			for m := 5; m < 256; m++ {
				for _, a := range []api.Bits{from.zero, from.negZero, from.one, from.inf, from.negInf, from.quiet[0], from.signaling[0]} {
					if got := of(Convert(to.form, from.form, api.Mode(m), a)); got != nothing {
						t.Fatalf("Convert(%d, %d, %d, %x): %v", to.form, from.form, m, a, got)
					}
				}
			}
		}
	}
}

// P18.1 and P18.2: bits that are no encoding of from, at each place above its width, though they may be of to.
func TestNoEncoding(t *testing.T) {
	eachPair(t, func(t *testing.T, p pair) {
		for place := p.from.w; place < 128; place++ {
			for i, bad := range p.from.edges() {
				if place < 64 {
					bad.Lo |= 1 << place
				} else {
					bad.Hi |= 1 << (place - 64)
				}
				if got := of(Convert(p.to.form, p.from.form, modes[i%5], bad)); got != nothing {
					t.Fatalf("Convert(%d, %d, %d, %x): %v", p.to.form, p.from.form, modes[i%5], bad, got)
				}
				if got := told(Fits(p.to.form, p.from.form, bad)); got != noFit {
					t.Fatalf("Fits(%d, %d, %x): %v", p.to.form, p.from.form, bad, got)
				}
			}
		}
	})
}

// P0.1: whatever is handed in, an encoding and flags that go together, or ErrArg and nothing; a second time the same.
func TestWhatever(t *testing.T) {
	s := source(78)
	for range 40000 {
		to, from, m := api.Form(s.below(5)), api.Form(s.below(5)), api.Mode(s.below(6))
		a := layouts[s.below(4)].any(&s)
		got, is := of(Convert(to, from, m, a)), told(Fits(to, from, a))
		if again, still := of(Convert(to, from, m, a)), told(Fits(to, from, a)); again != got || still != is {
			t.Errorf("Convert, Fits(%d, %d, %d, %x): %v, %v, then %v, %v", to, from, m, a, got, is, again, still)
		}
		formats := to < 4 && shape.Fits(from, a)
		if !formats && is != noFit || formats && is.e != api.OK {
			t.Errorf("Fits(%d, %d, %x): %v", to, from, a, is)
		}
		if !formats || m > 4 {
			if got != nothing {
				t.Errorf("Convert(%d, %d, %d, %x): %v; wanted ErrArg", to, from, m, a, got)
			}
			continue
		}
		switch got.flags {
		case 0, nx, uf, ov, nv:
		default:
			t.Errorf("Convert(%d, %d, %d, %x): %v", to, from, m, a, got)
		}
		if got.e != api.OK || !shape.Fits(to, got.b) {
			t.Errorf("Convert(%d, %d, %d, %x): %v", to, from, m, a, got)
		}
	}
}
