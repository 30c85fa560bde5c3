package shape

import (
	"math"
	"math/big"
	"slices"
	"testing"

	"abacus/api"
)

// want is the document's table of the formats, the exponents once more as they follow from it.
var want = []struct {
	form                         api.Form
	name                         string
	width, precision, emax, emin int
}{
	{api.Half, "h", 16, 11, 15, -14},
	{api.Single, "s", 32, 24, 127, -126},
	{api.Double, "d", 64, 53, 1023, -1022},
	{api.Quad, "q", 128, 113, 16383, -16382},
}

// none are all numbers of api.Form that are no format.
func none() []api.Form {
	var out []api.Form
	for n := 4; n < 256; n++ {
		out = append(out, api.Form(n))
	}
	return out
}

func number(b api.Bits) *big.Int {
	n := new(big.Int).SetUint64(b.Hi)
	return n.Add(n.Lsh(n, 64), new(big.Int).SetUint64(b.Lo))
}

func bits(n *big.Int) api.Bits {
	low := new(big.Int).SetUint64(math.MaxUint64)
	return api.Bits{Hi: new(big.Int).Rsh(n, 64).Uint64(), Lo: low.And(low, n).Uint64()}
}

func power(n int) *big.Int { return new(big.Int).Lsh(big.NewInt(1), uint(n)) }

// scaled is n times 2^e.
func scaled(n *big.Int, e int) *big.Rat {
	if e < 0 {
		return new(big.Rat).SetFrac(n, power(-e))
	}
	return new(big.Rat).SetInt(new(big.Int).Mul(n, power(e)))
}

// meant is the number that an encoding is by the document's words, of which it takes the format's numbers from want alone; nil of an infinity and of a NaN.
func meant(w, p, emax int, b api.Bits) (neg bool, value *big.Rat, field, fraction *big.Int) {
	n := number(b)
	neg = n.Bit(w-1) == 1
	n.SetBit(n, w-1, 0)
	field = new(big.Int).Rsh(n, uint(p-1))
	fraction = new(big.Int).Sub(n, new(big.Int).Lsh(field, uint(p-1)))
	emin := 1 - emax
	switch e := int(field.Int64()); e {
	case 1<<(w-p) - 1:
	case 0:
		value = scaled(fraction, emin-p+1)
	default:
		value = scaled(new(big.Int).Add(power(p-1), fraction), e-emax-p+1)
	}
	return neg, value, field, fraction
}

// signed are the calls that answer an encoding with a sign.
func signed() map[string]func(api.Form, bool) api.Bits {
	return map[string]func(api.Form, bool) api.Bits{
		"Inf": Inf, "Zero": Zero, "Greatest": Greatest, "LeastNormal": LeastNormal, "Least": Least, "One": One,
	}
}

// P7.1: Check is OK of the four formats, ErrArg of all other numbers.
func TestCheck(t *testing.T) {
	for _, w := range want {
		if e := Check(w.form); e != api.OK {
			t.Errorf("Check(%d) = %v", w.form, e)
		}
	}
	for _, f := range none() {
		if e := Check(f); e != api.ErrArg {
			t.Errorf("Check(%d) = %v", f, e)
		}
	}
}

// P7.1: CheckMode is OK of the five modes, ErrArg of all others, Dyn among them.
func TestCheckMode(t *testing.T) {
	modes := []api.Mode{api.NearEven, api.ToZero, api.Down, api.Up, api.NearAway}
	for n := range 256 {
		w := api.ErrArg
		if slices.Contains(modes, api.Mode(n)) {
			w = api.OK
		}
		if e := CheckMode(api.Mode(n)); e != w {
			t.Errorf("CheckMode(%d) = %v, wanted %v", n, e, w)
		}
	}
	if e := CheckMode(api.Dyn); e != api.ErrArg {
		t.Errorf("CheckMode(Dyn) = %v", e)
	}
}

// P7.1: the numbers of the four formats; 0 of no format.
func TestNumbers(t *testing.T) {
	for _, w := range want {
		if n := Width(w.form); n != w.width {
			t.Errorf("Width(%s) = %d", w.name, n)
		}
		if n := Precision(w.form); n != w.precision {
			t.Errorf("Precision(%s) = %d", w.name, n)
		}
		if n := Emax(w.form); n != w.emax {
			t.Errorf("Emax(%s) = %d", w.name, n)
		}
		if n := Emin(w.form); n != w.emin {
			t.Errorf("Emin(%s) = %d", w.name, n)
		}
	}
	for _, f := range none() {
		if Width(f) != 0 || Precision(f) != 0 || Emax(f) != 0 || Emin(f) != 0 {
			t.Errorf("form %d: %d %d %d %d, wanted zeros", f, Width(f), Precision(f), Emax(f), Emin(f))
		}
	}
}

// P7.1: Fits hangs on the bits from the width on, on each of them, and on none below; nothing fits no format.
func TestFits(t *testing.T) {
	all := api.Bits{Hi: math.MaxUint64, Lo: math.MaxUint64}
	for _, w := range want {
		top := new(big.Int).Sub(power(w.width), big.NewInt(1))
		if !Fits(w.form, api.Bits{}) || !Fits(w.form, bits(top)) {
			t.Errorf("%s: 0 and 2^%d - 1 fit", w.name, w.width)
		}
		if got := Fits(w.form, all); got != (w.width == 128) {
			t.Errorf("Fits(%s, all ones) = %v", w.name, got)
		}
		for n := range 128 {
			one := power(n)
			below := n < w.width
			if got := Fits(w.form, bits(one)); got != below {
				t.Errorf("Fits(%s, 2^%d) = %v", w.name, n, got)
			}
			if got := Fits(w.form, bits(new(big.Int).Or(one, top))); got != below {
				t.Errorf("Fits(%s, 2^%d and all below the width) = %v", w.name, n, got)
			}
			rest := bits(new(big.Int).Sub(number(all), one))
			if got := Fits(w.form, rest); got != (w.width == 128) {
				t.Errorf("Fits(%s, all but 2^%d) = %v", w.name, n, got)
			}
		}
	}
	for _, f := range none() {
		for _, b := range []api.Bits{{}, {Lo: 1}, {Lo: 0x3c00}, {Hi: 1}, all} {
			if Fits(f, b) {
				t.Errorf("Fits(%d, %x) = true", f, b)
			}
		}
	}
}

// P7.2: the encodings, digit by digit.
func TestEncodings(t *testing.T) {
	l := []struct {
		what string
		got  api.Bits
		want api.Bits
	}{
		{"NaN h", NaN(api.Half), api.Bits{Lo: 0x7e00}},
		{"NaN s", NaN(api.Single), api.Bits{Lo: 0x7fc00000}},
		{"NaN d", NaN(api.Double), api.Bits{Lo: 0x7ff8000000000000}},
		{"NaN q", NaN(api.Quad), api.Bits{Hi: 0x7fff800000000000}},
		{"Inf h", Inf(api.Half, false), api.Bits{Lo: 0x7c00}},
		{"-Inf h", Inf(api.Half, true), api.Bits{Lo: 0xfc00}},
		{"Inf s", Inf(api.Single, false), api.Bits{Lo: 0x7f800000}},
		{"-Inf d", Inf(api.Double, true), api.Bits{Lo: 0xfff0000000000000}},
		{"Inf q", Inf(api.Quad, false), api.Bits{Hi: 0x7fff000000000000}},
		{"Zero h", Zero(api.Half, false), api.Bits{}},
		{"-Zero h", Zero(api.Half, true), api.Bits{Lo: 0x8000}},
		{"-Zero s", Zero(api.Single, true), api.Bits{Lo: 0x80000000}},
		{"-Zero d", Zero(api.Double, true), api.Bits{Lo: 0x8000000000000000}},
		{"-Zero q", Zero(api.Quad, true), api.Bits{Hi: 0x8000000000000000}},
		{"Greatest h", Greatest(api.Half, false), api.Bits{Lo: 0x7bff}},
		{"-Greatest s", Greatest(api.Single, true), api.Bits{Lo: 0xff7fffff}},
		{"Greatest d", Greatest(api.Double, false), api.Bits{Lo: 0x7fefffffffffffff}},
		{"Greatest q", Greatest(api.Quad, false), api.Bits{Hi: 0x7ffeffffffffffff, Lo: 0xffffffffffffffff}},
		{"LeastNormal h", LeastNormal(api.Half, false), api.Bits{Lo: 0x0400}},
		{"LeastNormal s", LeastNormal(api.Single, false), api.Bits{Lo: 0x00800000}},
		{"LeastNormal d", LeastNormal(api.Double, false), api.Bits{Lo: 0x0010000000000000}},
		{"-LeastNormal q", LeastNormal(api.Quad, true), api.Bits{Hi: 0x8001000000000000}},
		{"Least h", Least(api.Half, false), api.Bits{Lo: 0x0001}},
		{"-Least s", Least(api.Single, true), api.Bits{Lo: 0x80000001}},
		{"Least d", Least(api.Double, false), api.Bits{Lo: 1}},
		{"-Least q", Least(api.Quad, true), api.Bits{Hi: 0x8000000000000000, Lo: 1}},
		{"One h", One(api.Half, false), api.Bits{Lo: 0x3c00}},
		{"-One s", One(api.Single, true), api.Bits{Lo: 0xbf800000}},
		{"One d", One(api.Double, false), api.Bits{Lo: 0x3ff0000000000000}},
		{"One q", One(api.Quad, false), api.Bits{Hi: 0x3fff000000000000}},
	}
	for _, x := range l {
		if x.got != x.want {
			t.Errorf("%s: %016x, wanted %016x", x.what, x.got, x.want)
		}
	}
}

// P7.2: each finite encoding is the number that its call is to answer, by the document's rule.
func TestValues(t *testing.T) {
	one := big.NewInt(1)
	for _, w := range want {
		ulps := new(big.Int).Sub(power(w.precision), one)
		l := []struct {
			what string
			call func(api.Form, bool) api.Bits
			want *big.Rat
		}{
			{"Zero", Zero, new(big.Rat)},
			{"Greatest", Greatest, scaled(ulps, w.emax-w.precision+1)},
			{"LeastNormal", LeastNormal, scaled(one, w.emin)},
			{"Least", Least, scaled(one, w.emin-w.precision+1)},
			{"One", One, scaled(one, 0)},
		}
		for _, x := range l {
			for _, neg := range []bool{false, true} {
				s, v, _, _ := meant(w.width, w.precision, w.emax, x.call(w.form, neg))
				if s != neg || v == nil || v.Cmp(x.want) != 0 {
					t.Errorf("%s(%s, %v): the sign %v, another number", x.what, w.name, neg, s)
				}
			}
		}
	}
}

// P7.2: infinities have no fraction, the canonical NaN the highest bit of it alone, and no sign.
func TestNotFinite(t *testing.T) {
	for _, w := range want {
		for _, neg := range []bool{false, true} {
			s, v, _, fraction := meant(w.width, w.precision, w.emax, Inf(w.form, neg))
			if s != neg || v != nil || fraction.Sign() != 0 {
				t.Errorf("Inf(%s, %v) is none", w.name, neg)
			}
		}
		s, v, _, fraction := meant(w.width, w.precision, w.emax, NaN(w.form))
		if s || v != nil || fraction.Cmp(power(w.precision-2)) != 0 {
			t.Errorf("NaN(%s) is not the canonical one", w.name)
		}
	}
}

// P7.2: the language's own floats, of which two formats are, have the same encodings.
func TestOwnFloats(t *testing.T) {
	for _, neg := range []bool{false, true} {
		s := 1.0
		if neg {
			s = -1
		}
		single := map[string]float64{"Inf": math.Inf(int(s)), "Zero": math.Copysign(0, s), "Greatest": s * math.MaxFloat32, "LeastNormal": s * 0x1p-126, "Least": s * math.SmallestNonzeroFloat32, "One": s}
		double := map[string]float64{"Inf": math.Inf(int(s)), "Zero": math.Copysign(0, s), "Greatest": s * math.MaxFloat64, "LeastNormal": s * 0x1p-1022, "Least": s * math.SmallestNonzeroFloat64, "One": s}
		for name, call := range signed() {
			if got := call(api.Single, neg); got != (api.Bits{Lo: uint64(math.Float32bits(float32(single[name])))}) {
				t.Errorf("%s(s, %v) = %x", name, neg, got)
			}
			if got := call(api.Double, neg); got != (api.Bits{Lo: math.Float64bits(double[name])}) {
				t.Errorf("%s(d, %v) = %x", name, neg, got)
			}
		}
	}
}

// P7.2: of no format each encoding is the zero Bits.
func TestEncodingsOfNone(t *testing.T) {
	for _, f := range none() {
		if b := NaN(f); b != (api.Bits{}) {
			t.Errorf("NaN(%d) = %x", f, b)
		}
		for name, call := range signed() {
			for _, neg := range []bool{false, true} {
				if b := call(f, neg); b != (api.Bits{}) {
					t.Errorf("%s(%d, %v) = %x", name, f, neg, b)
				}
			}
		}
	}
}

// P7.3: names, and formats by their names.
func TestNames(t *testing.T) {
	for _, w := range want {
		if s, e := Name(w.form); s != w.name || e != api.OK {
			t.Errorf("Name(%d) = %q, %v", w.form, s, e)
		}
		if f, e := Named(w.name); f != w.form || e != api.OK {
			t.Errorf("Named(%q) = %d, %v", w.name, f, e)
		}
	}
	for _, f := range none() {
		if s, e := Name(f); s != "" || e != api.ErrArg {
			t.Errorf("Name(%d) = %q, %v", f, s, e)
		}
	}
	long := make([]byte, 1<<16)
	for _, s := range []string{"", "x", "H", "S", "D", "Q", "hs", "hh", " h", "h ", "h\x00", "\x00", "half", "quad", "0", "1", "2", "3", "é", "\xff", string(long)} {
		if f, e := Named(s); f != 0 || e != api.ErrArg {
			t.Errorf("Named(%.20q) = %d, %v", s, f, e)
		}
	}
	for n := range 256 {
		s := string([]byte{byte(n)})
		if _, e := Named(s); (e == api.OK) != (s == "h" || s == "s" || s == "d" || s == "q") {
			t.Errorf("Named(%q): %v", s, e)
		}
	}
}

// P7.3, P0.1: All tells the formats rising by width; it may be left early, and gone over again, in itself too.
func TestAll(t *testing.T) {
	rising := []api.Form{api.Half, api.Single, api.Double, api.Quad}
	all := All()
	for range 2 {
		if got := slices.Collect(all); !slices.Equal(got, rising) {
			t.Fatalf("All: %v", got)
		}
	}
	for n := range 4 {
		var got []api.Form
		for f := range all {
			got = append(got, f)
			if len(got) == n+1 {
				break
			}
		}
		if !slices.Equal(got, rising[:n+1]) {
			t.Errorf("All, left after %d: %v", n+1, got)
		}
	}
	var pairs []api.Form
	for f := range all {
		for g := range all {
			pairs = append(pairs, f, g)
		}
	}
	if len(pairs) != 32 || pairs[0] != api.Half || pairs[30] != api.Quad || pairs[31] != api.Quad {
		t.Errorf("All in All: %v", pairs)
	}
	last := 0
	for f := range all {
		if Width(f) <= last {
			t.Errorf("All does not rise at %d", f)
		}
		last = Width(f)
	}
}

// P7.4: what follows of the numbers.
func TestNumbersFollow(t *testing.T) {
	for f := range All() {
		if Emin(f) != 1-Emax(f) {
			t.Errorf("form %d: Emin %d, Emax %d", f, Emin(f), Emax(f))
		}
		if Emax(f) != 1<<(Width(f)-Precision(f)-1)-1 {
			t.Errorf("form %d: Emax %d, a field of %d bits", f, Emax(f), Width(f)-Precision(f))
		}
	}
}

// P7.4: each encoding fits; neg changes the sign bit alone, and the sign bit is the highest one of the width.
func TestEncodingsFollow(t *testing.T) {
	for f := range All() {
		if !Fits(f, NaN(f)) {
			t.Errorf("NaN(%d) does not fit", f)
		}
		for name, call := range signed() {
			plus, minus := call(f, false), call(f, true)
			if !Fits(f, plus) || !Fits(f, minus) {
				t.Errorf("%s(%d) does not fit", name, f)
			}
			turned := new(big.Int).Xor(number(plus), number(minus))
			if turned.Cmp(power(Width(f)-1)) != 0 || number(plus).Cmp(number(minus)) > 0 {
				t.Errorf("%s(%d): %x and %x", name, f, plus, minus)
			}
		}
	}
}

// The shifts over two words, at all counts and with bits that come to stand in both words.
func TestRaised(t *testing.T) {
	for n := range uint(200) {
		for _, x := range []uint64{0, 1, 3, 0x7fff, 1 << 63, 0x8000000000000001, 0x123456789abcdef0, math.MaxUint64} {
			w := new(big.Int).Lsh(new(big.Int).SetUint64(x), n)
			w.Mod(w, power(128))
			if got := raised(x, n); got != bits(w) {
				t.Errorf("raised(%x, %d) = %x", x, n, got)
			}
		}
	}
	for n := range 129 {
		if got := ones(uint(n)); got != bits(new(big.Int).Sub(power(n), big.NewInt(1))) {
			t.Errorf("ones(%d) = %x", n, got)
		}
	}
}
