package kind

import (
	"fmt"
	"math"
	"math/big"
	"strings"
	"testing"

	"abacus/api"
	"abacus/exact"
)

// layout is the document's table of the formats, so that what is expected hangs on no layer of the program.
type layout struct {
	form      api.Form
	name      string
	w, p      int
	emax      int
	randomers int
}

var layouts = []layout{
	{api.Half, "h", 16, 11, 15, 0},
	{api.Single, "s", 32, 24, 127, 1500},
	{api.Double, "d", 64, 53, 1023, 1500},
	{api.Quad, "q", 128, 113, 16383, 500},
}

// source is xorshift: the same numbers each time.
type source uint64

func (s *source) next() uint64 {
	x := uint64(*s)
	x ^= x << 13
	x ^= x >> 7
	x ^= x << 17
	*s = source(x)
	return x
}

func number(b api.Bits) *big.Int {
	n := new(big.Int).SetUint64(b.Hi)
	return n.Add(n.Lsh(n, 64), new(big.Int).SetUint64(b.Lo))
}

func bitsOf(n *big.Int) api.Bits {
	low := new(big.Int).SetUint64(math.MaxUint64)
	return api.Bits{Hi: new(big.Int).Rsh(n, 64).Uint64(), Lo: low.And(low, n).Uint64()}
}

func wideNumber(n *big.Int) api.Wide {
	var w api.Wide
	rest := new(big.Int).Set(n)
	for i := range w {
		w[i] = bitsOf(rest).Lo
		rest.Rsh(rest, 64)
	}
	return w
}

func numberOfWide(w api.Wide) *big.Int {
	n := new(big.Int)
	for i := len(w) - 1; i >= 0; i-- {
		n.Lsh(n, 64).Add(n, new(big.Int).SetUint64(w[i]))
	}
	return n
}

func power(n int) *big.Int { return new(big.Int).Lsh(big.NewInt(1), uint(n)) }

// scaled is n times 2^e.
func scaled(n *big.Int, e int) *big.Rat {
	if e < 0 {
		return new(big.Rat).SetFrac(n, power(-e))
	}
	return new(big.Rat).SetInt(new(big.Int).Mul(n, power(e)))
}

// made puts an encoding together from its three fields.
func (l layout) made(neg bool, e int64, t *big.Int) api.Bits {
	n := new(big.Int).Lsh(big.NewInt(e), uint(l.p-1))
	n.Or(n, t)
	if neg {
		n.SetBit(n, l.w-1, 1)
	}
	return bitsOf(n)
}

// fields takes an encoding apart.
func (l layout) fields(b api.Bits) (neg bool, e int64, t *big.Int) {
	n := number(b)
	neg = n.Bit(l.w-1) == 1
	n.SetBit(n, l.w-1, 0)
	e = new(big.Int).Rsh(n, uint(l.p-1)).Int64()
	t = new(big.Int).Sub(n, new(big.Int).Lsh(big.NewInt(e), uint(l.p-1)))
	return neg, e, t
}

func (l layout) top() int64 { return 1<<(l.w-l.p) - 1 }

func (l layout) emin() int { return 1 - l.emax }

// parts is what the chapter says of an encoding's parts.
func (l layout) parts(b api.Bits) api.Parts {
	neg, e, t := l.fields(b)
	either := func(below, above api.Class) api.Class {
		if neg {
			return below
		}
		return above
	}
	switch {
	case e == l.top() && t.Sign() == 0:
		return api.Parts{Class: either(api.NegInf, api.PosInf)}
	case e == l.top() && t.Bit(l.p-2) == 1:
		return api.Parts{Class: api.Quiet, Fraction: wideNumber(t)}
	case e == l.top():
		return api.Parts{Class: api.Signaling, Fraction: wideNumber(t)}
	case e == 0 && t.Sign() == 0:
		return api.Parts{Class: either(api.NegZero, api.PosZero)}
	case e == 0:
		return api.Parts{Class: either(api.NegSub, api.PosSub), Sig: wideNumber(t), Exp: l.emin() - l.p + 1}
	}
	sig := new(big.Int).Add(power(l.p-1), t)
	return api.Parts{Class: either(api.NegNormal, api.PosNormal), Sig: wideNumber(sig), Exp: int(e) - l.emax - l.p + 1}
}

// value is an encoding's number; nil of what is not finite.
func (l layout) value(b api.Bits) *big.Rat {
	neg, e, t := l.fields(b)
	var v *big.Rat
	switch e {
	case l.top():
		return nil
	case 0:
		v = scaled(t, l.emin()-l.p+1)
	default:
		v = scaled(new(big.Int).Add(power(l.p-1), t), int(e)-l.emax-l.p+1)
	}
	if neg {
		v.Neg(v)
	}
	return v
}

// text is an encoding's text.
func (l layout) text(b api.Bits) string {
	neg, e, t := l.fields(b)
	s := ""
	if neg {
		s = "-"
	}
	switch {
	case e == l.top() && t.Sign() == 0:
		return s + "inf"
	case e == l.top() && t.Bit(l.p-2) == 1:
		return s + fmt.Sprintf("nan:%x", t)
	case e == l.top():
		return s + fmt.Sprintf("snan:%x", t)
	case e == 0 && t.Sign() == 0:
		return s + "0"
	case e == 0:
		return s + fmt.Sprintf("%xp%d", t, l.emin()-l.p+1)
	}
	return s + fmt.Sprintf("%xp%d", new(big.Int).Add(power(l.p-1), t), int(e)-l.emax-l.p+1)
}

// nan tells whether b is a NaN.
func (l layout) nan(b api.Bits) bool {
	_, e, t := l.fields(b)
	return e == l.top() && t.Sign() != 0
}

// samples are all encodings of Half; of the others those at all edges of the fields, and many more.
func (l layout) samples() []api.Bits {
	var out []api.Bits
	if l.w == 16 {
		for n := range uint64(1 << 16) {
			out = append(out, api.Bits{Lo: n})
		}
		return out
	}
	full := new(big.Int).Sub(power(l.p-1), big.NewInt(1))
	ts := []*big.Int{new(big.Int), big.NewInt(1), big.NewInt(2), full, new(big.Int).Sub(full, big.NewInt(1))}
	for n := range l.p - 1 {
		ts = append(ts, power(n), new(big.Int).Sub(full, power(n)))
	}
	bias := int64(l.emax)
	for _, t := range ts {
		for _, e := range []int64{0, 1, 2, bias - 1, bias, bias + 1, l.top() - 2, l.top() - 1, l.top()} {
			out = append(out, l.made(false, e, t), l.made(true, e, t))
		}
	}
	s := source(l.w)
	for range l.randomers {
		e := int64(s.next()) & l.top()
		t := new(big.Int).And(number(api.Bits{Hi: s.next(), Lo: s.next()}), full)
		out = append(out, l.made(s.next()&64 != 0, e, t))
	}
	return out
}

// rat is an Exact's number.
func rat(x api.Exact) *big.Rat {
	num, den := new(big.Int).SetBytes([]byte(x.Num)), new(big.Int).SetBytes([]byte(x.Den))
	v := new(big.Rat).Mul(new(big.Rat).SetFrac(num, den), scaled(big.NewInt(1), x.Exp))
	if x.Neg {
		v.Neg(v)
	}
	return v
}

// exactOf is v in its one form.
func exactOf(t *testing.T, v *big.Rat) api.Exact {
	t.Helper()
	num := api.Nat(v.Num().Bytes())
	x, e := exact.Make(v.Sign() < 0, num, api.Nat(v.Denom().Bytes()), 0)
	if e != api.OK {
		t.Fatalf("%v as an Exact: %v", v, e)
	}
	return x
}

// none are all numbers of api.Form that are no format.
func none() []api.Form {
	var out []api.Form
	for n := 4; n < 256; n++ {
		out = append(out, api.Form(n))
	}
	return out
}

// P8.1: classes and parts, as the document says what an encoding is.
func TestClassAndUnpack(t *testing.T) {
	for _, l := range layouts {
		for _, b := range l.samples() {
			want := l.parts(b)
			if c, e := Class(l.form, b); c != want.Class || e != api.OK {
				t.Fatalf("Class(%s, %x) = %v, %v, wanted %v", l.name, b, c, e, want.Class)
			}
			if p, e := Unpack(l.form, b); p != want || e != api.OK {
				t.Fatalf("Unpack(%s, %x) = %v, %v, wanted %v", l.name, b, p, e, want)
			}
		}
	}
}

// P8.1: the chapter's examples, and each class of each format by its digits.
func TestClassByDigits(t *testing.T) {
	digits := []struct {
		form  api.Form
		b     api.Bits
		class api.Class
	}{
		{api.Half, api.Bits{Lo: 0x3c00}, api.PosNormal}, {api.Half, api.Bits{Lo: 0x0001}, api.PosSub},
		{api.Half, api.Bits{Lo: 0x8000}, api.NegZero}, {api.Half, api.Bits{Lo: 0xfe00}, api.Quiet},
		{api.Half, api.Bits{Lo: 0x7c01}, api.Signaling}, {api.Half, api.Bits{Lo: 0xfc00}, api.NegInf},
		{api.Half, api.Bits{Lo: 0x7c00}, api.PosInf}, {api.Half, api.Bits{}, api.PosZero},
		{api.Half, api.Bits{Lo: 0x83ff}, api.NegSub}, {api.Half, api.Bits{Lo: 0x8400}, api.NegNormal},
		{api.Single, api.Bits{Lo: 0x7f800001}, api.Signaling}, {api.Single, api.Bits{Lo: 0x7fc00000}, api.Quiet},
		{api.Single, api.Bits{Lo: 0xff800000}, api.NegInf}, {api.Single, api.Bits{Lo: 0x007fffff}, api.PosSub},
		{api.Double, api.Bits{Lo: 0x7ff0000000000001}, api.Signaling}, {api.Double, api.Bits{Lo: 0xfff8000000000000}, api.Quiet},
		{api.Double, api.Bits{Lo: 0x8000000000000000}, api.NegZero}, {api.Double, api.Bits{Lo: 0x8010000000000000}, api.NegNormal},
		{api.Quad, api.Bits{Hi: 0x7fff000000000000}, api.PosInf}, {api.Quad, api.Bits{Hi: 0x7fff000000000000, Lo: 1}, api.Signaling},
		{api.Quad, api.Bits{Hi: 0xffff800000000000}, api.Quiet}, {api.Quad, api.Bits{Hi: 0x8000000000000000, Lo: 1}, api.NegSub},
		{api.Quad, api.Bits{Lo: 0x8000000000000000}, api.PosSub}, {api.Quad, api.Bits{Hi: 0x0001000000000000}, api.PosNormal},
	}
	for _, x := range digits {
		if c, e := Class(x.form, x.b); c != x.class || e != api.OK {
			t.Errorf("Class(%v, %x) = %v, %v, wanted %v", x.form, x.b, c, e, x.class)
		}
	}
	parts := []struct {
		b    uint64
		want api.Parts
	}{
		{0x3c00, api.Parts{Class: api.PosNormal, Sig: api.Wide{1024}, Exp: -10}},
		{0x0001, api.Parts{Class: api.PosSub, Sig: api.Wide{1}, Exp: -24}},
		{0x8000, api.Parts{Class: api.NegZero}},
		{0xfe00, api.Parts{Class: api.Quiet, Fraction: api.Wide{512}}},
		{0x7c01, api.Parts{Class: api.Signaling, Fraction: api.Wide{1}}},
	}
	for _, x := range parts {
		if p, e := Unpack(api.Half, api.Bits{Lo: x.b}); p != x.want || e != api.OK {
			t.Errorf("Unpack(h, %x) = %v, %v, wanted %v", x.b, p, e, x.want)
		}
	}
}

// are tells whether p are the parts of some encoding, by the ranges that the chapter gives them.
func (l layout) are(p api.Parts) bool {
	sig, fraction := numberOfWide(p.Sig), numberOfWide(p.Fraction)
	least := l.emin() - l.p + 1
	switch p.Class {
	case api.NegInf, api.NegZero, api.PosZero, api.PosInf:
		return sig.Sign() == 0 && fraction.Sign() == 0 && p.Exp == 0
	case api.NegSub, api.PosSub:
		return sig.Sign() > 0 && sig.BitLen() < l.p && p.Exp == least && fraction.Sign() == 0
	case api.NegNormal, api.PosNormal:
		return sig.BitLen() == l.p && p.Exp >= least && p.Exp <= l.emax-l.p+1 && fraction.Sign() == 0
	case api.Signaling:
		return fraction.Sign() > 0 && fraction.BitLen() < l.p-1 && sig.Sign() == 0 && p.Exp == 0
	case api.Quiet:
		return fraction.BitLen() == l.p-1 && sig.Sign() == 0 && p.Exp == 0
	}
	return false
}

func (l layout) wantPack(t *testing.T, p api.Parts) {
	t.Helper()
	b, e := Pack(l.form, p)
	if !l.are(p) {
		if e != api.ErrNumber || b != (api.Bits{}) {
			t.Fatalf("Pack(%s, %v) = %x, %v, wanted ErrNumber", l.name, p, b, e)
		}
		return
	}
	if neg, _, _ := l.fields(b); e != api.OK || l.parts(b) != p || l.nan(b) && neg {
		t.Fatalf("Pack(%s, %v) = %x, %v", l.name, p, b, e)
	}
}

// P8.1: Pack takes just what are parts of an encoding: of each field what is one beside, and what is far away.
func TestPack(t *testing.T) {
	exps := []int{0, 1, -1, math.MaxInt, math.MinInt, math.MaxInt - 1, 1 << 31, 1 << 32, -1 << 32, 1 << 62, 1 << 16, 1 << 15}
	for _, l := range layouts {
		least := l.emin() - l.p + 1
		near := []int{least - 1, least, least + 1, l.emax - l.p, l.emax - l.p + 1, l.emax - l.p + 2, l.emax, l.emin(), least + 1<<(l.w-l.p)}
		for i, b := range l.samples() {
			if l.w == 16 && i%7 != 0 && i&0x3ff > 2 && i&0x3ff < 0x3fe {
				continue
			}
			p := l.parts(b)
			l.wantPack(t, p)
			for class := range 12 {
				q := p
				q.Class = api.Class(class)
				l.wantPack(t, q)
			}
			q := p
			q.Exp++
			l.wantPack(t, q)
			q.Exp -= 2
			l.wantPack(t, q)
			q = p
			q.Sig, q.Fraction = p.Fraction, p.Sig
			l.wantPack(t, q)
		}
		for _, b := range l.samples()[:40] {
			p := l.parts(b)
			for _, exp := range append(near, exps...) {
				q := p
				q.Exp = exp
				l.wantPack(t, q)
			}
		}
	}
}

// P8.1: Pack refuses a significand or a fraction with one bit more, wherever it stands, and each class with what is another's.
func TestPackBits(t *testing.T) {
	for _, l := range layouts {
		least := l.emin() - l.p + 1
		for class := range 256 {
			for place := range 384 {
				one := wideNumber(power(place))
				if class > 10 && place%64 > 1 {
					continue
				}
				for _, exp := range []int{0, least, least + 1, l.emax - l.p + 1, 1} {
					l.wantPack(t, api.Parts{Class: api.Class(class), Sig: one, Exp: exp})
				}
				l.wantPack(t, api.Parts{Class: api.Class(class), Fraction: one})
				l.wantPack(t, api.Parts{Class: api.Class(class), Fraction: wideNumber(new(big.Int).Or(power(place), power(l.p-2)))})
				l.wantPack(t, api.Parts{Class: api.Class(class), Sig: wideNumber(new(big.Int).Or(power(place), power(l.p-1))), Exp: least})
				l.wantPack(t, api.Parts{Class: api.Class(class), Sig: wideNumber(power(l.p - 1)), Exp: least, Fraction: one})
			}
			l.wantPack(t, api.Parts{Class: api.Class(class)})
			l.wantPack(t, api.Parts{Class: api.Class(class), Exp: least})
		}
	}
	for _, p := range []api.Parts{{Class: api.PosNormal, Sig: api.Wide{1}}, {Class: api.Quiet, Fraction: api.Wide{1}}} {
		if b, e := Pack(api.Half, p); b != (api.Bits{}) || e != api.ErrNumber {
			t.Errorf("Pack(h, %v) = %x, %v", p, b, e)
		}
	}
}

// P8.2: the value of each finite encoding, in its one form; ErrNumber of the others.
func TestValue(t *testing.T) {
	for _, l := range layouts {
		for _, b := range l.samples() {
			want := l.value(b)
			x, e := Value(l.form, b)
			if want == nil {
				if x != (api.Exact{}) || e != api.ErrNumber {
					t.Fatalf("Value(%s, %x) = %v, %v, wanted ErrNumber", l.name, b, x, e)
				}
				continue
			}
			if e != api.OK || exact.Check(x) != api.OK || rat(x).Cmp(want) != 0 {
				t.Fatalf("Value(%s, %x) = %v, %v", l.name, b, x, e)
			}
		}
	}
	if x, e := Value(api.Half, api.Bits{Lo: 0x3555}); x != (api.Exact{Num: "\x05\x55", Den: "\x01", Exp: -12}) || e != api.OK {
		t.Errorf("Value(h, 3555) = %v, %v", x, e)
	}
	for _, zero := range []uint64{0, 0x8000} {
		if x, e := Value(api.Half, api.Bits{Lo: zero}); x != (api.Exact{Den: "\x01"}) || e != api.OK {
			t.Errorf("Value(h, %x) = %v, %v", zero, x, e)
		}
	}
}

// wantNone asks that v is the value of no encoding.
func (l layout) wantNone(t *testing.T, x api.Exact) {
	t.Helper()
	if b, is, e := Of(l.form, x); b != (api.Bits{}) || is || e != api.OK {
		t.Fatalf("Of(%s, %v) = %x, %v, %v, wanted none", l.name, x, b, is, e)
	}
}

// P8.2: Of finds the encoding of each value, and of what lies between two of them, or beyond all of them, none.
func TestOf(t *testing.T) {
	for _, l := range layouts {
		half, third := big.NewRat(1, 2), big.NewRat(1, 3)
		for i, b := range l.samples() {
			v := l.value(b)
			if v == nil {
				continue
			}
			want := b
			if v.Sign() == 0 {
				want = api.Bits{}
			}
			if got, is, e := Of(l.form, exactOf(t, v)); got != want || !is || e != api.OK {
				t.Fatalf("Of(%s, %x's value) = %x, %v, %v", l.name, b, got, is, e)
			}
			if i%17 != 0 || v.Sign() == 0 {
				continue
			}
			_, field, _ := l.fields(b)
			ulp := scaled(big.NewInt(int64(v.Sign())), max(int(field), 1)-l.emax-l.p+1)
			for _, part := range []*big.Rat{half, third} {
				between := new(big.Rat).Mul(ulp, part)
				l.wantNone(t, exactOf(t, between.Add(v, between)))
			}
		}
	}
}

// P8.2: the edges of a format: the greatest and the least magnitudes, and one step of half a unit beyond them.
func TestOfEdges(t *testing.T) {
	for _, l := range layouts {
		full := new(big.Int).Sub(power(l.p), big.NewInt(1))
		for _, sign := range []int64{1, -1} {
			s := big.NewRat(sign, 1)
			signed := func(v *big.Rat) api.Exact { return exactOf(t, new(big.Rat).Mul(v, s)) }
			inside := []struct {
				v *big.Rat
				b api.Bits
			}{
				{scaled(full, l.emax-l.p+1), l.made(sign < 0, l.top()-1, new(big.Int).Sub(power(l.p-1), big.NewInt(1)))},
				{scaled(big.NewInt(1), l.emax), l.made(sign < 0, l.top()-1, new(big.Int))},
				{scaled(big.NewInt(1), l.emin()), l.made(sign < 0, 1, new(big.Int))},
				{scaled(big.NewInt(1), l.emin()-1), l.made(sign < 0, 0, power(l.p-2))},
				{scaled(big.NewInt(1), l.emin()-l.p+1), l.made(sign < 0, 0, big.NewInt(1))},
				{scaled(big.NewInt(3), l.emin()-l.p+1), l.made(sign < 0, 0, big.NewInt(3))},
				{scaled(big.NewInt(1), 0), l.made(sign < 0, int64(l.emax), new(big.Int))},
			}
			for _, x := range inside {
				if b, is, e := Of(l.form, signed(x.v)); b != x.b || !is || e != api.OK {
					t.Errorf("Of(%s, %v) = %x, %v, %v, wanted %x", l.name, x.v, b, is, e, x.b)
				}
			}
			outside := []*big.Rat{
				scaled(big.NewInt(1), l.emax+1),
				scaled(new(big.Int).Sub(power(l.p+1), big.NewInt(1)), l.emax-l.p),
				scaled(big.NewInt(1), l.emax+2),
				scaled(big.NewInt(1), l.emin()-l.p),
				scaled(big.NewInt(3), l.emin()-l.p),
				scaled(new(big.Int).Add(power(l.p), big.NewInt(1)), 0),
				scaled(new(big.Int).Add(power(l.p), big.NewInt(1)), l.emin()-l.p),
				big.NewRat(1, 3),
				big.NewRat(2, 3),
				big.NewRat(3, 7),
			}
			for _, v := range outside {
				l.wantNone(t, signed(v))
			}
		}
	}
	ff := func(n int) api.Nat { return api.Nat(strings.Repeat("\xff", n)) }
	for _, l := range layouts {
		for _, x := range []api.Exact{
			{Num: "\x01", Den: "\x01", Exp: api.MaxExp}, {Num: "\x01", Den: "\x01", Exp: -api.MaxExp},
			{Num: ff(api.MaxNat), Den: "\x01", Exp: api.MaxExp}, {Num: ff(api.MaxNat), Den: "\x01", Exp: -api.MaxExp},
			{Num: ff(api.MaxNat), Den: "\x01", Exp: -8 * api.MaxNat},
			{Num: "\x01", Den: ff(api.MaxNat), Exp: api.MaxExp}, {Num: "\x01", Den: ff(api.MaxNat), Exp: -api.MaxExp},
			{Num: "\x01", Den: ff(api.MaxNat), Exp: 8 * api.MaxNat}, {Neg: true, Num: "\x01", Den: "\x03"},
		} {
			l.wantNone(t, x)
		}
	}
}

// P8.2: Of of an Exact that may not be.
func TestOfWrong(t *testing.T) {
	long := api.Nat(strings.Repeat("\x01", api.MaxNat+1))
	for _, l := range layouts {
		for _, x := range []api.Exact{
			{}, {Num: "\x02", Den: "\x01"}, {Num: "\x01", Den: "\x02"}, {Num: "\x03", Den: "\x03"}, {Num: "\x00\x01", Den: "\x01"},
			{Num: "\x01", Den: ""}, {Num: "\x01", Den: "\x00\x01"}, {Neg: true, Den: "\x01"}, {Den: "\x01", Exp: 1}, {Den: "\x03"},
			{Num: "\x01", Den: "\x01", Exp: api.MaxExp + 1}, {Num: "\x01", Den: "\x01", Exp: -api.MaxExp - 1},
			{Num: "\x01", Den: "\x01", Exp: math.MaxInt}, {Num: "\x01", Den: "\x01", Exp: math.MinInt},
			{Num: long, Den: "\x01"}, {Num: "\x01", Den: long},
		} {
			if b, is, e := Of(l.form, x); b != (api.Bits{}) || is || e != api.ErrArg {
				t.Errorf("Of(%s, %v) = %x, %v, %v", l.name, x, b, is, e)
			}
		}
	}
	l := []struct {
		x  api.Exact
		b  uint64
		is bool
	}{
		{api.Exact{Num: "\x01", Den: "\x03"}, 0, false},
		{api.Exact{Num: "\x07\xff", Den: "\x01", Exp: 5}, 0x7bff, true},
		{api.Exact{Num: "\x0f\xff", Den: "\x01", Exp: 4}, 0, false},
		{api.Exact{Den: "\x01"}, 0, true},
	}
	for _, x := range l {
		if b, is, e := Of(api.Half, x.x); b != (api.Bits{Lo: x.b}) || is != x.is || e != api.OK {
			t.Errorf("Of(h, %v) = %x, %v, %v", x.x, b, is, e)
		}
	}
}

// P8.3: the sign bit told and turned; a NaN made quiet; all else as it was.
func TestSignFlipQuiet(t *testing.T) {
	for _, l := range layouts {
		for _, b := range l.samples() {
			neg, e, fraction := l.fields(b)
			if s := Sign(l.form, b); s != neg {
				t.Fatalf("Sign(%s, %x) = %v", l.name, b, s)
			}
			if got := Flip(l.form, b); got != l.made(!neg, e, fraction) {
				t.Fatalf("Flip(%s, %x) = %x", l.name, b, got)
			}
			want := b
			if l.nan(b) {
				want = l.made(neg, e, new(big.Int).Or(fraction, power(l.p-2)))
			}
			if got := Quiet(l.form, b); got != want {
				t.Fatalf("Quiet(%s, %x) = %x, wanted %x", l.name, b, got, want)
			}
		}
	}
}

// P8.4: the least number above, by the values: it is above, and so near that nothing lies between, for it is one step of the least unit in reach.
func TestNext(t *testing.T) {
	for _, l := range layouts {
		last := new(big.Int).Sub(power(l.p-1), big.NewInt(1))
		infBelow, infAbove := l.made(true, l.top(), new(big.Int)), l.made(false, l.top(), new(big.Int))
		greatBelow, greatAbove := l.made(true, l.top()-1, last), l.made(false, l.top()-1, last)
		leastBelow, leastAbove := l.made(true, 0, big.NewInt(1)), l.made(false, 0, big.NewInt(1))
		zeroBelow, zeroAbove := l.made(true, 0, new(big.Int)), api.Bits{}
		named := map[api.Bits]api.Bits{
			infBelow: greatBelow, leastBelow: zeroBelow, zeroBelow: leastAbove, zeroAbove: leastAbove, greatAbove: infAbove,
		}
		for b, want := range named {
			if got, e := Next(l.form, b); got != want || e != api.OK {
				t.Errorf("Next(%s, %x) = %x, %v, wanted %x", l.name, b, got, e, want)
			}
		}
		for _, b := range l.samples() {
			if _, is := named[b]; is {
				continue
			}
			got, e := Next(l.form, b)
			if l.nan(b) || b == infAbove {
				if got != (api.Bits{}) || e != api.ErrNumber {
					t.Fatalf("Next(%s, %x) = %x, %v, wanted ErrNumber", l.name, b, got, e)
				}
				continue
			}
			if e != api.OK || l.value(got) == nil || l.value(got).Cmp(l.above(b)) != 0 {
				t.Fatalf("Next(%s, %x) = %x, %v", l.name, b, got, e)
			}
		}
	}
}

// above is the least number of the format above b's, b being neither 0 nor at the end: one unit of b's own up; but from a power of two below 0 the unit is that of the field below.
func (l layout) above(b api.Bits) *big.Rat {
	neg, e, t := l.fields(b)
	if neg && t.Sign() == 0 {
		e--
	}
	unit := scaled(big.NewInt(1), max(int(e), 1)-l.emax-l.p+1)
	return unit.Add(l.value(b), unit)
}

// P8.5: texts, and each read back.
func TestText(t *testing.T) {
	for _, l := range layouts {
		for _, b := range l.samples() {
			want := l.text(b)
			if s, e := Text(l.form, b); s != want || e != api.OK {
				t.Fatalf("Text(%s, %x) = %q, %v, wanted %q", l.name, b, s, e, want)
			}
			if got, e := Read(l.form, want); got != b || e != api.OK {
				t.Fatalf("Read(%s, %q) = %x, %v, wanted %x", l.name, want, got, e, b)
			}
		}
	}
	l := []struct {
		form api.Form
		b    api.Bits
		s    string
	}{
		{api.Half, api.Bits{Lo: 0xbc00}, "-400p-10"}, {api.Half, api.Bits{Lo: 0xfe01}, "-nan:201"},
		{api.Half, api.Bits{Lo: 0x7d00}, "snan:100"}, {api.Half, api.Bits{Lo: 0x8000}, "-0"},
		{api.Half, api.Bits{}, "0"}, {api.Half, api.Bits{Lo: 0x7c00}, "inf"}, {api.Half, api.Bits{Lo: 0xfc00}, "-inf"},
		{api.Half, api.Bits{Lo: 0xfc01}, "-snan:1"}, {api.Half, api.Bits{Lo: 0x7e00}, "nan:200"},
		{api.Half, api.Bits{Lo: 1}, "1p-24"}, {api.Half, api.Bits{Lo: 0x83ff}, "-3ffp-24"},
		{api.Half, api.Bits{Lo: 0x6400}, "400p0"}, {api.Half, api.Bits{Lo: 0x7bff}, "7ffp5"},
		{api.Quad, api.Bits{Hi: 0x7ffeffffffffffff, Lo: math.MaxUint64}, "1ffffffffffffffffffffffffffffp16271"},
		{api.Quad, api.Bits{Lo: 1}, "1p-16494"}, {api.Single, api.Bits{Lo: 0x3f800000}, "800000p-23"},
	}
	for _, x := range l {
		if s, e := Text(x.form, x.b); s != x.s || e != api.OK {
			t.Errorf("Text(%v, %x) = %q, %v, wanted %q", x.form, x.b, s, e, x.s)
		}
		if b, e := Read(x.form, x.s); b != x.b || e != api.OK {
			t.Errorf("Read(%v, %q) = %x, %v, wanted %x", x.form, x.s, b, e, x.b)
		}
	}
}

// P8.5: Read refuses what is no text of an encoding: other forms of what is one, what is beyond, what is torn.
func TestReadWrong(t *testing.T) {
	nines := strings.Repeat("9", 40)
	for _, s := range []string{
		"", "-", "--0", "+0", "00", "-00", "0p0", "-0p0", "0p-24", "0x0", " 0", "0 ", "0\n", "+inf", "Inf", "INF", "infinity", "inf ", "--inf", "inf-", "-+inf",
		"nan", "-nan", "snan", "nan:", "snan:", "nan:0", "snan:0", "nan:1", "nan:1ff", "snan:200", "snan:3ff", "nan:400", "nan:600", "snan:400", "nan:0200", "nan:200 ", "nan: 200", "NaN:200", "nan:3FF", "snan:FF",
		"qnan:200", "xnan:200", "snansnan:100", "nan:nan:200", "nan:-200", "nan:+200", "--nan:200", "nan:200p0", "snan:" + nines, "nan:" + strings.Repeat("f", 97),
		"nan:10000000000000000000000000000000200", "nan:8200", "snan:8001", "nan:fe00",
		"1p0", "1p-23", "1p-25", "1p-024", "1p-24 ", "1p- 24", "1p", "p", "p-24", "1", "1P-24", "01p-24", "1p-24p", "1p--24", "1p-+24", "1pp-24", "-1p0", "1q-24",
		"400p-010", "400p+0", "400p00", "400p-0", "0400p-10", "400p 0", "400P0", "400p0.", "400p0x1", "400p1_0", "400p6", "400p7", "400p-25", "400p-26", "800p-10", "7ffp6", "7FFp5", "7ffp05", "800p5", "3ffp-23", "3ffp0", "200p-10", "3ff",
		"400p1000000", "400p-1000000", "400p" + nines, "400p-" + nines, "400p9223372036854775807", "400p-9223372036854775808", "400p18446744073709551592", "400p-18446744073709551640",
		strings.Repeat("4", 97) + "p0", strings.Repeat("f", 96) + "p0", "100000000000000000000000000000400p0", "10400p0", "g00p0", "-g", "400p-10\x00", "\x00", "\xff\xfe", "é", "４00p0",
	} {
		if b, e := Read(api.Half, s); b != (api.Bits{}) || e != api.ErrNumber {
			t.Errorf("Read(h, %q) = %x, %v", s, b, e)
		}
	}
	long := strings.Repeat("f", 1<<20)
	for _, l := range layouts {
		for _, s := range []string{long, "-" + long, "nan:" + long, "snan:" + long, long + "p0", "1p" + long, "1p" + strings.Repeat("9", 1<<20), "1p-" + strings.Repeat("0", 1<<20), strings.Repeat("-", 1<<20)} {
			if b, e := Read(l.form, s); b != (api.Bits{}) || e != api.ErrNumber {
				t.Errorf("Read(%s, %q..) = %x, %v", l.name, s[:5], b, e)
			}
		}
	}
}

// P8.5: a text of one format is none of another, unless it is that other's text too.
func TestReadAcross(t *testing.T) {
	for _, l := range layouts {
		for i, b := range l.samples() {
			if i%5 != 0 {
				continue
			}
			s := l.text(b)
			for _, other := range layouts {
				got, e := Read(other.form, s)
				if e == api.OK && other.text(got) != s || e != api.OK && (e != api.ErrNumber || got != api.Bits{}) {
					t.Fatalf("Read(%s, %q) = %x, %v", other.name, s, got, e)
				}
				if again := s != "" && (s == "0" || s == "-0" || s == "inf" || s == "-inf"); again && e != api.OK {
					t.Fatalf("Read(%s, %q): %v", other.name, s, e)
				}
			}
		}
	}
	for _, x := range []struct {
		form api.Form
		s    string
	}{{api.Half, "800000p-23"}, {api.Single, "400p-10"}, {api.Double, "400p-10"}, {api.Quad, "1p-1074"}, {api.Half, "snan:400"}, {api.Double, "nan:200"}} {
		if b, e := Read(x.form, x.s); b != (api.Bits{}) || e != api.ErrNumber {
			t.Errorf("Read(%v, %q) = %x, %v", x.form, x.s, b, e)
		}
	}
}

// P8.6: there and back.
func TestThereAndBack(t *testing.T) {
	for _, l := range layouts {
		for _, b := range l.samples() {
			p, _ := Unpack(l.form, b)
			want := b
			if l.nan(b) && Sign(l.form, b) {
				want = Flip(l.form, b)
			}
			if got, e := Pack(l.form, p); got != want || e != api.OK {
				t.Fatalf("%s: Pack(Unpack(%x)) = %x, %v", l.name, b, got, e)
			}
			s, _ := Text(l.form, b)
			if got, e := Read(l.form, s); got != b || e != api.OK {
				t.Fatalf("%s: Read(Text(%x)) = %x, %v", l.name, b, got, e)
			}
			if got := Flip(l.form, Flip(l.form, b)); got != b {
				t.Fatalf("%s: Flip(Flip(%x)) = %x", l.name, b, got)
			}
			x, e := Value(l.form, b)
			if e != api.OK {
				continue
			}
			if p.Class == api.NegZero {
				b = api.Bits{}
			}
			if got, is, e := Of(l.form, x); got != b || !is || e != api.OK {
				t.Fatalf("%s: Of(Value(%x)) = %x, %v, %v", l.name, b, got, is, e)
			}
		}
	}
}

// P8.6: from the infinity below Next comes through all of Half's encodings but one zero and the NaNs, and their values rise.
func TestNextThroughAll(t *testing.T) {
	seen := map[api.Bits]int{}
	b, steps := api.Bits{Lo: 0xfc00}, 0
	for ; b != (api.Bits{Lo: 0x7c00}) && steps < 1<<16; steps++ {
		seen[b]++
		next, e := Next(api.Half, b)
		if e != api.OK {
			t.Fatalf("Next(h, %x): %v", b, e)
		}
		x, one := Value(api.Half, b)
		y, two := Value(api.Half, next)
		if one == api.OK && two == api.OK {
			if c, e := exact.Cmp(x, y); c >= 0 || e != api.OK {
				t.Fatalf("Next(h, %x) = %x does not rise", b, next)
			}
		}
		b = next
	}
	nans := 2 * (1<<10 - 1)
	if want := 1<<16 - nans - 2; steps != want || len(seen) != want {
		t.Errorf("%d steps through %d encodings, wanted %d", steps, len(seen), want)
	}
}

// P8.6: in the greater formats the step rises likewise, at all edges.
func TestNextRises(t *testing.T) {
	for _, l := range layouts[1:] {
		for _, b := range l.samples() {
			next, e := Next(l.form, b)
			if e != api.OK || l.value(b) == nil || l.value(next) == nil {
				continue
			}
			if c := l.value(b).Cmp(l.value(next)); c > 0 || c == 0 && number(b).Sign() != 0 {
				t.Fatalf("Next(%s, %x) = %x does not rise", l.name, b, next)
			}
		}
	}
}

// wantErrArg asks that each call that takes bits answers ErrArg, and zero values beside it.
func wantErrArg(t *testing.T, f api.Form, b api.Bits) {
	t.Helper()
	if c, e := Class(f, b); c != 0 || e != api.ErrArg {
		t.Errorf("Class(%d, %x) = %v, %v", f, b, c, e)
	}
	if p, e := Unpack(f, b); p != (api.Parts{}) || e != api.ErrArg {
		t.Errorf("Unpack(%d, %x) = %v, %v", f, b, p, e)
	}
	if x, e := Value(f, b); x != (api.Exact{}) || e != api.ErrArg {
		t.Errorf("Value(%d, %x) = %v, %v", f, b, x, e)
	}
	if Sign(f, b) || Flip(f, b) != (api.Bits{}) || Quiet(f, b) != (api.Bits{}) {
		t.Errorf("Sign, Flip, Quiet(%d, %x) = %v, %x, %x", f, b, Sign(f, b), Flip(f, b), Quiet(f, b))
	}
	if n, e := Next(f, b); n != (api.Bits{}) || e != api.ErrArg {
		t.Errorf("Next(%d, %x) = %x, %v", f, b, n, e)
	}
	if s, e := Text(f, b); s != "" || e != api.ErrArg {
		t.Errorf("Text(%d, %x) = %q, %v", f, b, s, e)
	}
}

// P0.1: of no format, whatever else is handed in.
func TestNoFormat(t *testing.T) {
	for _, f := range none() {
		for _, b := range []api.Bits{{}, {Lo: 1}, {Lo: 0x3c00}, {Lo: 0x7c01}, {Hi: 1 << 63}, {Hi: math.MaxUint64, Lo: math.MaxUint64}} {
			wantErrArg(t, f, b)
		}
		for class := range 11 {
			if b, e := Pack(f, api.Parts{Class: api.Class(class)}); b != (api.Bits{}) || e != api.ErrArg {
				t.Errorf("Pack(%d, %d) = %x, %v", f, class, b, e)
			}
		}
		for _, x := range []api.Exact{{}, {Den: "\x01"}, {Num: "\x01", Den: "\x01"}, {Neg: true, Num: "\x01", Den: "\x03", Exp: 7}} {
			if b, is, e := Of(f, x); b != (api.Bits{}) || is || e != api.ErrArg {
				t.Errorf("Of(%d, %v) = %x, %v, %v", f, x, b, is, e)
			}
		}
		for _, s := range []string{"", "0", "-0", "inf", "nan:200", "400p-10", "x"} {
			if b, e := Read(f, s); b != (api.Bits{}) || e != api.ErrArg {
				t.Errorf("Read(%d, %q) = %x, %v", f, s, b, e)
			}
		}
	}
}

// P0.1: bits above a format's width, at each place, beside what would be of each class.
func TestNoEncoding(t *testing.T) {
	for _, l := range layouts {
		for place := l.w; place < 128; place++ {
			for _, fields := range []struct {
				e int64
				t *big.Int
			}{{0, new(big.Int)}, {0, big.NewInt(1)}, {1, big.NewInt(1)}, {l.top(), new(big.Int)}, {l.top(), big.NewInt(1)}, {l.top(), power(l.p - 2)}} {
				for _, neg := range []bool{false, true} {
					n := number(l.made(neg, fields.e, fields.t))
					wantErrArg(t, l.form, bitsOf(n.SetBit(n, place, 1)))
				}
			}
		}
		if l.w < 128 {
			wantErrArg(t, l.form, api.Bits{Hi: math.MaxUint64, Lo: math.MaxUint64})
		}
	}
}
