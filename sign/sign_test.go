package sign

import (
	"math"
	"math/bits"
	"strconv"
	"testing"

	"abacus/api"
	"abacus/kind"
	"abacus/shape"
)

// check holds all calls of two encodings, both ways round, against what the model says.
func (l layout) check(t *testing.T, a, b api.Bits) {
	t.Helper()
	if got, want := of(l.form, a, b), l.wants(a, b); got != want {
		t.Errorf("format %d, %x and %x: %+v; wanted %+v", l.form, a, b, got, want)
	}
	if got, want := of(l.form, b, a), l.wants(b, a); got != want {
		t.Errorf("format %d, %x and %x: %+v; wanted %+v", l.form, b, a, got, want)
	}
}

// eachForm runs a test on each format, all at the same time as one another and as other tests.
func eachForm(t *testing.T, test func(t *testing.T, l layout)) {
	t.Parallel()
	for _, l := range layouts {
		t.Run(strconv.Itoa(l.w), func(t *testing.T) {
			t.Parallel()
			test(t, l)
		})
	}
}

func h(x uint64) api.Bits { return api.Bits{Lo: x} }

// The chapter's examples.
func TestExamples(t *testing.T) {
	for name, c := range map[string]struct{ got, want encoding }{
		"Copy(3c00, 8000)": {told(Copy(api.Half, h(0x3c00), h(0x8000))), encoding{b: h(0xbc00)}},
		"Not(3c00, 3c00)":  {told(Not(api.Half, h(0x3c00), h(0x3c00))), encoding{b: h(0xbc00)}},
		"Xor(bc00, fe00)":  {told(Xor(api.Half, h(0xbc00), h(0xfe00))), encoding{b: h(0x3c00)}},
		"OfWord(123456)":   {told(OfWord(api.Half, 0x123456)), encoding{b: h(0x3456)}},
	} {
		if c.got != c.want {
			t.Errorf("%s of Half: %+v; wanted %+v", name, c.got, c.want)
		}
	}
	for name, c := range map[string]struct{ got, want number }{
		"Classify(7e00)": {counted(Classify(api.Half, h(0x7e00))), number{n: 512}},
		"Classify(8000)": {counted(Classify(api.Half, h(0x8000))), number{n: 8}},
		"Classify(0001)": {counted(Classify(api.Half, h(0x0001))), number{n: 32}},
		"ToWord(bc00)":   {counted(ToWord(api.Half, h(0xbc00))), number{n: 0xffffffffffffbc00}},
	} {
		if c.got != c.want {
			t.Errorf("%s of Half: %+v; wanted %+v", name, c.got, c.want)
		}
	}
	for _, a := range layouts[3].edges() {
		if got, e := ToWord(api.Quad, a); got != 0 || e != api.ErrArg {
			t.Errorf("ToWord(Quad, %x): %x, %v", a, got, e)
		}
	}
}

// P17.1, by hand: each of the four pairs of signs, on numbers, zeros, infinities and NaNs of both kinds, whose bits stay.
func TestSigns(t *testing.T) {
	for _, c := range []struct{ a, b, copied, not, xor uint64 }{
		{0x3c00, 0x4000, 0x3c00, 0xbc00, 0x3c00},
		{0x3c00, 0xc000, 0xbc00, 0x3c00, 0xbc00},
		{0xbc00, 0x4000, 0x3c00, 0xbc00, 0xbc00},
		{0xbc00, 0xc000, 0xbc00, 0x3c00, 0x3c00},
		{0x0000, 0x8000, 0x8000, 0x0000, 0x8000},
		{0x8000, 0x0000, 0x0000, 0x8000, 0x8000},
		{0x8000, 0x8000, 0x8000, 0x0000, 0x0000},
		{0x0001, 0x83ff, 0x8001, 0x0001, 0x8001},
		{0x7bff, 0xfc00, 0xfbff, 0x7bff, 0xfbff},
		{0x7c00, 0xffff, 0xfc00, 0x7c00, 0xfc00},
		{0xfc00, 0x7c01, 0x7c00, 0xfc00, 0xfc00},
		// A signaling NaN stays one, and no NaN becomes the canonical one.
		{0x7c01, 0x8000, 0xfc01, 0x7c01, 0xfc01},
		{0xfdff, 0x3c00, 0x7dff, 0xfdff, 0xfdff},
		{0x7e01, 0x3c00, 0x7e01, 0xfe01, 0x7e01},
		{0xffff, 0xfe00, 0xffff, 0x7fff, 0x7fff},
		{0x7fff, 0xfc01, 0xffff, 0x7fff, 0xffff},
	} {
		got := of(api.Half, h(c.a), h(c.b))
		if got.copied != told(h(c.copied), 0) || got.not != told(h(c.not), 0) || got.xor != told(h(c.xor), 0) {
			t.Errorf("Half %x and %x: %+v; wanted %+v", c.a, c.b, got, c)
		}
	}
}

// P17.1, by hand: where each format has its sign.
func TestSignPlaces(t *testing.T) {
	for f, sign := range map[api.Form]api.Bits{api.Half: {Lo: 0x8000}, api.Single: {Lo: 0x80000000}, api.Double: {Lo: 0x8000000000000000}, api.Quad: {Hi: 0x8000000000000000}} {
		got := of(f, api.Bits{}, sign)
		if got.copied != told(sign, 0) || got.not != (encoding{}) || got.xor != told(sign, 0) {
			t.Errorf("format %d, 0 and -0: %+v", f, got)
		}
		if got := of(f, sign, api.Bits{Lo: 1}); got.copied != (encoding{}) || got.not != told(sign, 0) || got.xor != told(sign, 0) {
			t.Errorf("format %d, -0 and the least: %+v", f, got)
		}
	}
}

// P17.2, by hand: each class at both of its ends.
func TestClasses(t *testing.T) {
	for _, c := range []struct{ a, want uint64 }{
		{0xfc00, 1},
		{0xfbff, 2}, {0xbc00, 2}, {0x8400, 2},
		{0x83ff, 4}, {0x8001, 4},
		{0x8000, 8},
		{0x0000, 16},
		{0x0001, 32}, {0x03ff, 32},
		{0x0400, 64}, {0x3c00, 64}, {0x7bff, 64},
		{0x7c00, 128},
		{0x7c01, 256}, {0x7dff, 256}, {0xfc01, 256}, {0xfdff, 256},
		{0x7e00, 512}, {0x7fff, 512}, {0xfe00, 512}, {0xffff, 512},
	} {
		if got, e := Classify(api.Half, h(c.a)); got != c.want || e != api.OK {
			t.Errorf("Classify(Half, %x): %d, %v; wanted %d", c.a, got, e, c.want)
		}
	}
	for _, c := range []struct {
		f    api.Form
		a    api.Bits
		want uint64
	}{
		{api.Single, h(0x7f800000), 128}, {api.Single, h(0x7f800001), 256}, {api.Single, h(0xffc00000), 512}, {api.Single, h(0x807fffff), 4},
		{api.Double, h(0xfff0000000000000), 1}, {api.Double, h(0x7ff0000000000001), 256}, {api.Double, h(0x7ff8000000000000), 512}, {api.Double, h(0x0010000000000000), 64},
		{api.Quad, api.Bits{Hi: 0x7fff000000000000}, 128}, {api.Quad, api.Bits{Hi: 0xffff000000000000, Lo: 1}, 256}, {api.Quad, api.Bits{Hi: 0xffff800000000000}, 512},
		{api.Quad, api.Bits{Lo: 1}, 32}, {api.Quad, api.Bits{Hi: 0x8000000000000000}, 8}, {api.Quad, api.Bits{Hi: 0x8000000000000001}, 4}, {api.Quad, api.Bits{Hi: 0x8001000000000000}, 2},
	} {
		if got, e := Classify(c.f, c.a); got != c.want || e != api.OK {
			t.Errorf("Classify(%d, %x): %d, %v; wanted %d", c.f, c.a, got, e, c.want)
		}
	}
}

// P17.3, by hand.
func TestWords(t *testing.T) {
	for _, c := range []struct {
		f       api.Form
		a, want uint64
	}{
		{api.Half, 0x3c00, 0x3c00}, {api.Half, 0x7fff, 0x7fff}, {api.Half, 0x8000, 0xffffffffffff8000}, {api.Half, 0xffff, 0xffffffffffffffff}, {api.Half, 0, 0},
		{api.Single, 0x3f800000, 0x3f800000}, {api.Single, 0x80000000, 0xffffffff80000000}, {api.Single, 0xff800001, 0xffffffffff800001}, {api.Single, 0x00008000, 0x8000},
		{api.Double, 0x3ff0000000000000, 0x3ff0000000000000}, {api.Double, 0x8000000000000001, 0x8000000000000001}, {api.Double, 0x80000000, 0x80000000},
	} {
		if got, e := ToWord(c.f, h(c.a)); got != c.want || e != api.OK {
			t.Errorf("ToWord(%d, %x): %x, %v; wanted %x", c.f, c.a, got, e, c.want)
		}
	}
	for _, c := range []struct {
		f       api.Form
		x, want uint64
	}{
		{api.Half, 0xffffffffffff3c00, 0x3c00}, {api.Half, 0x18000, 0x8000}, {api.Half, 0xffffffffffffffff, 0xffff}, {api.Half, 0x10000, 0},
		{api.Single, 0x123456789abcdef0, 0x9abcdef0}, {api.Single, 0x100000000, 0}, {api.Single, 0xffffffff, 0xffffffff},
		{api.Double, 0x123456789abcdef0, 0x123456789abcdef0}, {api.Double, 0xffffffffffffffff, 0xffffffffffffffff}, {api.Double, 0, 0},
	} {
		if got, e := OfWord(c.f, c.x); got != h(c.want) || e != api.OK {
			t.Errorf("OfWord(%d, %x): %x, %v; wanted %x", c.f, c.x, got, e, c.want)
		}
	}
}

// P17.1 to P17.3: each edge with each edge.
func TestEdges(t *testing.T) {
	eachForm(t, func(t *testing.T, l layout) {
		list := l.edges()
		for _, a := range list {
			for _, b := range list {
				l.check(t, a, b)
			}
		}
	})
}

// P17.1 to P17.3: encodings that have one bit, and that lack one.
func TestEachBit(t *testing.T) {
	eachForm(t, func(t *testing.T, l layout) {
		full := beside(power(l.w), -1)
		for i := range l.w {
			for j := range l.w {
				one, lacks := power(i), beside(full, 0)
				lacks.SetBit(lacks, j, 0)
				l.check(t, l.bits(false, one), l.bits(false, lacks))
				l.check(t, l.bits(false, one), l.bits(false, power(j)))
			}
		}
	})
}

// P17.1 to P17.3: all over the formats.
func TestAllOver(t *testing.T) {
	eachForm(t, func(t *testing.T, l layout) {
		s := source(17 + l.w)
		for range 20000 {
			a := l.any(&s)
			l.check(t, a, l.any(&s))
			l.check(t, a, l.near(&s, a))
		}
	})
}

// P17.1 to P17.3: all encodings of Half beside some others, on either side.
func TestAllHalf(t *testing.T) {
	t.Parallel()
	l := layouts[0]
	for n := range uint64(1 << 16) {
		for _, other := range []uint64{0x0000, 0x8000, 0x3c01, 0xbc01, 0x7c00, 0xfc01, 0x7e01, 0xffff} {
			l.check(t, h(n), h(other))
		}
	}
}

// P17.1: what math.Copysign says, in which the signs of NaNs are moved too.
func TestOwnFloats(t *testing.T) {
	t.Parallel()
	l := layouts[2]
	s := source(64)
	list := l.edges()
	for range 20000 {
		a, b := l.any(&s), l.any(&s)
		if s.below(4) == 0 {
			a, b = list[s.below(len(list))], list[s.below(len(list))]
		}
		x, y := math.Float64frombits(a.Lo), math.Float64frombits(b.Lo)
		sign := 1.0
		if math.Signbit(x) != math.Signbit(y) {
			sign = -1
		}
		got := of(api.Double, a, b)
		want := [3]api.Bits{h(math.Float64bits(math.Copysign(x, y))), h(math.Float64bits(math.Copysign(x, -y))), h(math.Float64bits(math.Copysign(x, sign)))}
		if [3]api.Bits{got.copied.b, got.not.b, got.xor.b} != want {
			t.Errorf("Double %x and %x: %+v; wanted %x", a, b, got, want)
		}
		infinite := 0
		if math.IsInf(x, -1) {
			infinite = 1
		} else if math.IsInf(x, 1) {
			infinite = 128
		}
		if nan := got.class.n&768 != 0; nan != math.IsNaN(x) || int(got.class.n&129) != infinite || (got.class.n&24 != 0) != (x == 0) {
			t.Errorf("Classify(Double, %x): %d", a, got.class.n)
		}
	}
}

// P17.3: what the language's own conversions between whole numbers of unlike widths say, of all words of 16 bits and of some others.
func TestOwnConversions(t *testing.T) {
	t.Parallel()
	s := source(173)
	for n := range uint64(1 << 16) {
		x := s.next()&^0xffff | n
		if got, e := OfWord(api.Half, x); got != h(uint64(uint16(x))) || e != api.OK {
			t.Errorf("OfWord(Half, %x): %x, %v", x, got, e)
		}
		if got, e := OfWord(api.Single, x); got != h(uint64(uint32(x))) || e != api.OK {
			t.Errorf("OfWord(Single, %x): %x, %v", x, got, e)
		}
		if got, e := OfWord(api.Double, x); got != h(x) || e != api.OK {
			t.Errorf("OfWord(Double, %x): %x, %v", x, got, e)
		}
		if got, e := ToWord(api.Half, h(n)); got != uint64(int64(int16(n))) || e != api.OK {
			t.Errorf("ToWord(Half, %x): %x, %v", n, got, e)
		}
		if got, e := ToWord(api.Single, h(x>>32)); got != uint64(int64(int32(x>>32))) || e != api.OK {
			t.Errorf("ToWord(Single, %x): %x, %v", x>>32, got, e)
		}
		if got, e := ToWord(api.Double, h(x)); got != x || e != api.OK {
			t.Errorf("ToWord(Double, %x): %x, %v", x, got, e)
		}
	}
}

// P17.3: OfWord of words all over, and of words with one bit, or lacking one.
func TestOfWord(t *testing.T) {
	eachForm(t, func(t *testing.T, l layout) {
		s := source(3 + l.w)
		list := []uint64{0, math.MaxUint64}
		for i := range 64 {
			list = append(list, 1<<i, ^uint64(1<<i), 1<<i-1)
		}
		for range 5000 {
			list = append(list, s.next(), s.next()>>s.below(64))
		}
		for _, x := range list {
			if got, want := told(OfWord(l.form, x)), l.cut(x); got != want {
				t.Errorf("OfWord(%d, %x): %+v; wanted %+v", l.form, x, got, want)
			}
		}
	})
}

// P17.4: what follows, held by the calls against one another and against kind.
func TestLaws(t *testing.T) {
	eachForm(t, func(t *testing.T, l layout) {
		s := source(4 + l.w)
		list := l.edges()
		for range 20000 {
			list = append(list, l.any(&s))
		}
		seen := uint64(0)
		for _, a := range list {
			l.checkLaws(t, a, l.any(&s))
			class, _ := Classify(l.form, a)
			if bits.OnesCount64(class) != 1 || class > 512 {
				t.Errorf("Classify(%d, %x): %d", l.form, a, class)
			}
			seen |= class
		}
		if seen != 1023 {
			t.Errorf("classes of format %d: %b", l.form, seen)
		}
	})
}

func (l layout) checkLaws(t *testing.T, a, b api.Bits) {
	t.Helper()
	if got, e := Copy(l.form, a, a); got != a || e != api.OK {
		t.Errorf("Copy(%d, %x, it): %x, %v", l.form, a, got, e)
	}
	if got, e := Not(l.form, a, a); got != kind.Flip(l.form, a) || e != api.OK {
		t.Errorf("Not(%d, %x, it): %x, %v", l.form, a, got, e)
	}
	if got, e := Xor(l.form, a, a); kind.Sign(l.form, got) || e != api.OK {
		t.Errorf("Xor(%d, %x, it): %x, %v", l.form, a, got, e)
	}
	once, _ := Xor(l.form, a, b)
	if got, e := Xor(l.form, once, b); got != a || e != api.OK {
		t.Errorf("Xor(%d, %x, %x) twice: %x, %v", l.form, a, b, got, e)
	}
	if class, _ := kind.Class(l.form, a); counted(Classify(l.form, a)) != (number{n: 1 << class}) {
		t.Errorf("Classify(%d, %x) is not of the class %d", l.form, a, class)
	}
	if l.form == api.Quad {
		return
	}
	word, _ := ToWord(l.form, a)
	if got, e := OfWord(l.form, word); got != a || e != api.OK {
		t.Errorf("OfWord(%d, %x), which is ToWord of %x: %x, %v", l.form, word, a, got, e)
	}
}

// nothing is what all calls of two answer where they may not be.
var nothing = answers{
	copied: encoding{e: api.ErrArg}, not: encoding{e: api.ErrArg}, xor: encoding{e: api.ErrArg},
	class: number{e: api.ErrArg}, word: number{e: api.ErrArg},
}

// P17.1 to P17.3: what is no format, whatever is beside it.
func TestNoFormat(t *testing.T) {
	list := []api.Bits{h(0), h(1), h(0x3c00), h(0x8000), h(0x7c00), h(0xfc01), h(0x7e00), {Hi: 1 << 63, Lo: 1}}
	for f := 4; f < 256; f++ {
		for _, a := range list {
			for _, b := range list {
				if got := of(api.Form(f), a, b); got != nothing {
					t.Errorf("format %d, %x and %x: %+v", f, a, b, got)
				}
			}
			if got := told(OfWord(api.Form(f), a.Lo)); got != (encoding{e: api.ErrArg}) {
				t.Errorf("OfWord(%d, %x): %+v", f, a.Lo, got)
			}
		}
	}
}

// P17.3: Quad has no word, whatever is handed in; its other calls stay as they are.
func TestQuadHasNoWord(t *testing.T) {
	for i := range 128 {
		a := layouts[3].bits(false, power(i))
		if got := counted(ToWord(api.Quad, a)); got != (number{e: api.ErrArg}) {
			t.Errorf("ToWord(Quad, %x): %+v", a, got)
		}
		if got := told(OfWord(api.Quad, a.Lo)); got != (encoding{e: api.ErrArg}) {
			t.Errorf("OfWord(Quad, %x): %+v", a.Lo, got)
		}
	}
}

// P17.1 to P17.3: bits that are no encoding, at each place above the width, on each side.
func TestNoEncoding(t *testing.T) {
	t.Parallel()
	for _, l := range layouts[:3] {
		edges := l.edges()
		for place := l.w; place < 128; place++ {
			for i, b := range edges {
				n := whole(b)
				bad := layouts[3].bits(false, n.SetBit(n, place, 1))
				good := edges[(i+place)%len(edges)]
				one := nothing // b is none of what Classify and ToWord are asked
				one.class, one.word = counted(Classify(l.form, good)), counted(ToWord(l.form, good))
				if got := of(l.form, bad, good); got != nothing {
					t.Fatalf("format %d, %x and %x: %+v", l.form, bad, good, got)
				}
				if got := of(l.form, bad, bad); got != nothing {
					t.Fatalf("format %d, %x twice: %+v", l.form, bad, got)
				}
				if got := of(l.form, good, bad); got != one {
					t.Fatalf("format %d, %x and %x: %+v", l.form, good, bad, got)
				}
			}
		}
	}
}

// P0.1: whatever is handed in, an answer of its format, or ErrArg and nothing; a second time the same.
func TestWhatever(t *testing.T) {
	s := source(78)
	for range 40000 {
		f, l := api.Form(s.below(6)), layouts[s.below(4)]
		a, b := l.any(&s), l.any(&s)
		got := of(f, a, b)
		if again := of(f, a, b); again != got {
			t.Errorf("format %d, %x and %x: %+v, then %+v", f, a, b, got, again)
		}
		may := f < 4 && shape.Fits(f, a) && shape.Fits(f, b)
		for _, answer := range []encoding{got.copied, got.not, got.xor} {
			if may && (answer.e != api.OK || !shape.Fits(f, answer.b)) || !may && answer != told(api.Bits{}, api.ErrArg) {
				t.Errorf("format %d, %x and %x: %+v", f, a, b, got)
			}
		}
		cut := told(OfWord(f, a.Lo))
		if may := f < 3; may && (cut.e != api.OK || !shape.Fits(f, cut.b)) || !may && cut != told(api.Bits{}, api.ErrArg) {
			t.Errorf("OfWord(%d, %x): %+v", f, a.Lo, cut)
		}
	}
}
