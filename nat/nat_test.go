package nat

import (
	"math"
	"math/big"
	"strings"
	"testing"

	"abacus/api"
)

const (
	ones = math.MaxUint64
	// longest is how many bits the longest Nat has, by DOC.md's limit.
	longest = 8 * 16384
)

// num and nat are package api's words on a Nat: its bytes, the highest first, without noughts ahead.

func num(a api.Nat) *big.Int { return new(big.Int).SetBytes([]byte(a)) }

func nat(n *big.Int) api.Nat { return api.Nat(n.Bytes()) }

func small(x int64) api.Nat { return nat(big.NewInt(x)) }

func power(n uint) *big.Int { return new(big.Int).Lsh(big.NewInt(1), n) }

func plus(n *big.Int, x int64) *big.Int { return new(big.Int).Add(n, big.NewInt(x)) }

// ofWords puts a number together from words, the highest first.
func ofWords(words ...uint64) api.Nat {
	n := new(big.Int)
	for _, x := range words {
		n.Lsh(n, 64)
		n.Or(n, new(big.Int).SetUint64(x))
	}
	return nat(n)
}

// short tells a number in a message, the long ones by their length.
func short(a api.Nat) string {
	if len(a) > 100 {
		return "of " + big.NewInt(int64(len(a))).String() + " bytes, " + num(a[:8]).Text(16) + ".."
	}
	return "[" + strings.ToLower(num(a).Text(16)) + "]"
}

// most is the greatest Nat that may be; mostTop the least one of its length.
func most() api.Nat { return nat(plus(power(longest), -1)) }

func mostTop() api.Nat { return nat(power(longest - 1)) }

// wrong are Nats that may not be: with noughts ahead, and too long.
func wrong() []api.Nat {
	long := api.Nat(strings.Repeat("\xff", 16385))
	return []api.Nat{
		"\x00", "\x00\x00", "\x00\x01", "\x00\xff\xff", api.Nat(strings.Repeat("\x00", 16384)),
		"\x00" + most()[1:], "\x00" + most(), long, api.Nat("\x01" + strings.Repeat("\x00", 16384)), long + long,
	}
}

// edges are the numbers about the ends of bytes and words.
func edges() []api.Nat {
	out := []api.Nat{"", small(1), small(2), small(3), small(5), small(6), small(7), small(9), small(10), small(12), small(15), small(16), small(17), small(18)}
	for _, n := range []uint{7, 8, 9, 15, 16, 31, 32, 48, 56, 63, 64, 65, 72, 127, 128, 129, 191, 192, 256, 383, 384, 385, 512} {
		out = append(out, nat(plus(power(n), -1)), nat(power(n)), nat(plus(power(n), 1)))
	}
	return out
}

// source tells the same words in each run.
type source uint64

func (s *source) next() uint64 {
	x := uint64(*s)
	x ^= x << 13
	x ^= x >> 7
	x ^= x << 17
	*s = source(x)
	return x
}

// word tells words of which many are such that a carry goes through them, or a guess at a digit is far off.
func (s *source) word() uint64 {
	some := [...]uint64{0, 1, 2, 1<<63 - 1, 1 << 63, 1<<63 + 1, ones - 1, ones, 1 << 32, 1<<32 - 1}
	if x := s.next() >> 32; x%3 != 0 {
		return some[x/3%uint64(len(some))]
	}
	return s.next()
}

// number tells numbers of up to that many words.
func (s *source) number(words int) api.Nat {
	list := make([]uint64, s.next()>>20%uint64(words+1))
	for i := range list {
		list[i] = s.word()
	}
	return ofWords(list...)
}

// bytes tells numbers of just n bytes (n above 0).
func (s *source) bytes(n int) api.Nat {
	out := make([]byte, n)
	for i := range out {
		out[i] = byte(s.next() >> 24)
	}
	out[0] |= 1
	return api.Nat(out)
}

func newSource() *source {
	s := source(0x9e3779b97f4a7c15)
	return &s
}

func samples() []api.Nat {
	out := edges()
	s := newSource()
	for range 60 {
		out = append(out, s.number(6))
	}
	return out
}

// pairs are all pairs of the samples, and many more that are not so evenly long.
func pairs() [][2]api.Nat {
	var out [][2]api.Nat
	for _, a := range samples() {
		for _, b := range samples() {
			out = append(out, [2]api.Nat{a, b})
		}
	}
	s := newSource()
	for range 20000 {
		out = append(out, [2]api.Nat{s.number(9), s.number(5)})
	}
	return out
}

// TestCheck: P5.1; one may be, if its first byte is not 0 and it has at most 16384 bytes.
func TestCheck(t *testing.T) {
	may := append(samples(), most(), mostTop(), most()[1:], "\x01\x00", "\x80", "\xff\x00\x00")
	for _, a := range may {
		if e := Check(a); e != api.OK {
			t.Errorf("Check(%s): %v", short(a), e)
		}
	}
	for _, a := range wrong() {
		if e := Check(a); e != api.ErrArg {
			t.Errorf("Check of one that may not be, of %d bytes: %v", len(a), e)
		}
	}
}

// TestOf: P5.1.
func TestOf(t *testing.T) {
	s := newSource()
	words := []uint64{0, 1, 2, 127, 128, 255, 256, 257, 65535, 65536, 1<<56 - 1, 1 << 56, 1<<63 - 1, 1 << 63, ones - 1, ones}
	for range 300 {
		words = append(words, s.next()>>(s.next()>>40%64))
	}
	for _, x := range words {
		if got, want := Of(x), nat(new(big.Int).SetUint64(x)); got != want {
			t.Errorf("Of(%x): %s", x, short(got))
		}
	}
}

// wideNum is what a Wide is worth, by package api: the lowest word first.
func wideNum(w api.Wide) *big.Int {
	return num(ofWords(w[5], w[4], w[3], w[2], w[1], w[0]))
}

// TestOfWideToWide: P5.1; there and back.
func TestOfWideToWide(t *testing.T) {
	s := newSource()
	wides := []api.Wide{{}, {1}, {ones}, {0, 1}, {0, 0, 0, 0, 0, 1}, {0, 0, 0, 0, 0, 1 << 63}, {ones, ones, ones, ones, ones, ones}, {1, 2, 3, 4, 5, 6}}
	for range 300 {
		var w api.Wide
		for i := range s.next() >> 30 % 7 {
			w[i] = s.word()
		}
		wides = append(wides, w)
	}
	for _, w := range wides {
		a := OfWide(w)
		if a != nat(wideNum(w)) {
			t.Errorf("OfWide(%x): %s", w, short(a))
		}
		if back, fits := ToWide(a); back != w || !fits {
			t.Errorf("ToWide(%s): %x, %v", short(a), back, fits)
		}
	}
}

// TestToWide: P5.1; it fits just below 2^384.
func TestToWide(t *testing.T) {
	bound := power(384)
	for _, a := range append(samples(), nat(bound), nat(plus(bound, -1)), nat(plus(bound, 1)), nat(power(392)), nat(power(448)), most(), mostTop()) {
		w, fits := ToWide(a)
		if want := num(a).Cmp(bound) < 0; fits != want || fits && wideNum(w).Cmp(num(a)) != 0 || !fits && w != (api.Wide{}) {
			t.Errorf("ToWide(%s): %x, %v", short(a), w, fits)
		}
	}
	for _, a := range wrong() {
		if w, fits := ToWide(a); fits || w != (api.Wide{}) {
			t.Errorf("ToWide of one that may not be, of %d bytes: %x, %v", len(a), w, fits)
		}
	}
}

// TestLenLow: P5.1; of each bit alone, of bits in pairs, of 0 and of what may not be.
func TestLenLow(t *testing.T) {
	all := append(samples(), most(), mostTop())
	for i := range uint(200) {
		for j := range i + 1 {
			all = append(all, nat(new(big.Int).Or(power(i), power(j))))
		}
	}
	for _, a := range all {
		n := num(a)
		if got := Len(a); got != n.BitLen() {
			t.Errorf("Len(%s): %d", short(a), got)
		}
		if got := Low(a); got != int(n.TrailingZeroBits()) {
			t.Errorf("Low(%s): %d", short(a), got)
		}
	}
	if Len("\x01\x00") != 9 || Low("\x01\x00") != 8 || Len("") != 0 || Low("") != 0 || Len(most()) != longest || Low(mostTop()) != longest-1 {
		t.Errorf("Len, Low: the chapter's examples and the longest")
	}
	for _, a := range wrong() {
		if Len(a) != 0 || Low(a) != 0 {
			t.Errorf("Len, Low of one that may not be, of %d bytes: %d, %d", len(a), Len(a), Low(a))
		}
	}
}

func checkNat(t *testing.T, what string, a, b, got api.Nat, e api.Errno, want *big.Int) {
	t.Helper()
	if got != nat(want) || e != api.OK {
		t.Fatalf("%s(%s, %s): %s, %v; wanted %s", what, short(a), short(b), short(got), e, short(nat(want)))
	}
}

// TestCmp: P5.2.
func TestCmp(t *testing.T) {
	all := append(pairs(), [2]api.Nat{most(), most()}, [2]api.Nat{most(), mostTop()}, [2]api.Nat{mostTop(), most()}, [2]api.Nat{small(1), most()})
	for _, p := range all {
		if got, e := Cmp(p[0], p[1]); got != num(p[0]).Cmp(num(p[1])) || e != api.OK {
			t.Fatalf("Cmp(%s, %s): %d, %v", short(p[0]), short(p[1]), got, e)
		}
	}
}

// TestAddSub: P5.2, held against math/big.
func TestAddSub(t *testing.T) {
	for _, p := range pairs() {
		a, b := num(p[0]), num(p[1])
		got, e := Add(p[0], p[1])
		checkNat(t, "Add", p[0], p[1], got, e, new(big.Int).Add(a, b))
		got, e = Sub(p[0], p[1])
		if a.Cmp(b) >= 0 {
			checkNat(t, "Sub", p[0], p[1], got, e, new(big.Int).Sub(a, b))
		} else if got != "" || e != api.ErrArg {
			t.Fatalf("Sub(%s, %s): %s, %v", short(p[0]), short(p[1]), short(got), e)
		}
	}
}

// TestMul: P5.2, held against math/big.
func TestMul(t *testing.T) {
	for _, p := range pairs() {
		got, e := Mul(p[0], p[1])
		checkNat(t, "Mul", p[0], p[1], got, e, new(big.Int).Mul(num(p[0]), num(p[1])))
	}
}

func checkDiv(t *testing.T, a, b api.Nat) {
	t.Helper()
	quo, rest, e := Div(a, b)
	if b == "" {
		if quo != "" || rest != "" || e != api.ErrArg {
			t.Fatalf("Div(%s, 0): %s, %s, %v", short(a), short(quo), short(rest), e)
		}
		return
	}
	q, r := new(big.Int).QuoRem(num(a), num(b), new(big.Int))
	checkNat(t, "Div", a, b, quo, e, q)
	checkNat(t, "Div, what is left", a, b, rest, e, r)
}

// TestDiv: P5.2, held against math/big; 0 by 0 too.
func TestDiv(t *testing.T) {
	for _, p := range pairs() {
		checkDiv(t, p[0], p[1])
	}
}

// TestDivMultiples: P5.2; about multiples, and where the highest words are the same or nearly so: there a guess at a digit is too high by one or two, or more than a word holds.
func TestDivMultiples(t *testing.T) {
	s := newSource()
	for range 4000 {
		b, q := num(s.number(5)), num(s.number(4))
		if b.Sign() == 0 {
			continue
		}
		a := new(big.Int).Mul(b, q)
		for _, x := range []*big.Int{a, plus(a, 1), new(big.Int).Add(a, plus(b, -1)), new(big.Int).Add(a, b)} {
			checkDiv(t, nat(x), nat(b))
		}
		if a.Sign() > 0 {
			checkDiv(t, nat(plus(a, -1)), nat(b))
		}
	}
	near := []uint64{0, 1, 2, 1<<63 - 1, 1 << 63, 1<<63 + 1, ones - 2, ones - 1, ones}
	for _, high := range []uint64{1, 1 << 62, 1<<63 - 1, 1 << 63, 1<<63 + 1, ones - 1, ones} {
		for _, x := range near {
			for _, y := range near {
				checkDiv(t, ofWords(high, x, y, 0), ofWords(high, y))
				checkDiv(t, ofWords(high, x, y, ones), ofWords(high, ones))
				checkDiv(t, ofWords(high-1, x, y, ones, x), ofWords(high, x, ones))
				checkDiv(t, ofWords(high-1, ones, x, y, 0), ofWords(high, 0, y))
				checkDiv(t, ofWords(high-1, x, y, x), ofWords(high))
			}
		}
	}
}

func checkSqrt(t *testing.T, a api.Nat) {
	t.Helper()
	root, rest, e := Sqrt(a)
	r := new(big.Int).Sqrt(num(a))
	checkNat(t, "Sqrt", a, "", root, e, r)
	checkNat(t, "Sqrt, what is left", a, "", rest, e, new(big.Int).Sub(num(a), r.Mul(r, r)))
}

// TestSqrt: P5.2; the first numbers, squares and both beside them.
func TestSqrt(t *testing.T) {
	for x := range int64(1100) {
		checkSqrt(t, small(x))
	}
	s := newSource()
	for range 4000 {
		r := num(s.number(5))
		square := new(big.Int).Mul(r, r)
		checkSqrt(t, nat(square))
		checkSqrt(t, nat(plus(square, 1)))
		// The greatest one of the same root.
		checkSqrt(t, nat(new(big.Int).Add(square, new(big.Int).Lsh(r, 1))))
		if r.Sign() > 0 {
			checkSqrt(t, nat(plus(square, -1)))
		}
		checkSqrt(t, s.number(9))
	}
	for n := range uint(400) {
		checkSqrt(t, nat(power(n)))
		checkSqrt(t, nat(plus(power(n), -1)))
	}
}

func checkGcd(t *testing.T, a, b api.Nat) {
	t.Helper()
	want := new(big.Int).GCD(nil, nil, num(a), num(b))
	got, e := Gcd(a, b)
	checkNat(t, "Gcd", a, b, got, e, want)
	got, e = Gcd(b, a)
	checkNat(t, "Gcd", b, a, got, e, want)
}

// TestGcd: P5.2, held against math/big; with 0, with what they have in common, and with numbers that are nearly the same.
func TestGcd(t *testing.T) {
	for _, p := range pairs() {
		checkGcd(t, p[0], p[1])
	}
	s := newSource()
	for range 4000 {
		a, b, g := s.bytes(1+int(s.next()>>40%70)), s.bytes(1+int(s.next()>>40%70)), num(s.number(5))
		checkGcd(t, a, b)
		checkGcd(t, nat(new(big.Int).Mul(num(a), g)), nat(new(big.Int).Mul(num(b), g)))
		checkGcd(t, a, nat(new(big.Int).Add(num(a), num(s.number(3)))))
		checkGcd(t, a, nat(new(big.Int).Mul(num(a), g)))
	}
}

// TestGcdSmall: P5.2; all pairs of small numbers, 0 among them.
func TestGcdSmall(t *testing.T) {
	for a := range int64(130) {
		for b := range a + 1 {
			checkGcd(t, small(a), small(b))
		}
	}
}

// TestGcdSteps: P5.2; the numbers that take the most steps, each of them the sum of both ahead, and those with a greater quotient now and then, times something in common.
func TestGcdSteps(t *testing.T) {
	s := newSource()
	for _, times := range []int64{1, 2, 3, 1 << 20} {
		for _, common := range []api.Nat{small(1), small(6), ofWords(3, ones), s.bytes(40)} {
			a, b := num(common), num(common)
			for i := range 900 {
				by := int64(1)
				if i%7 == 3 {
					by = times
				}
				a, b = b, new(big.Int).Add(a, new(big.Int).Mul(big.NewInt(by), b))
				if i%9 == 0 {
					checkGcd(t, nat(a), nat(b))
					checkGcd(t, nat(a), nat(plus(b, 1)))
				}
			}
		}
	}
}

// wholeWay tells whether both stand one behind the other on the way of rests that begins with a and b.
func wholeWay(a, b, first, second *big.Int) bool {
	for b.Sign() != 0 && b.Cmp(second) > 0 {
		a, b = b, new(big.Int).Rem(a, b)
	}
	return a.Cmp(first) == 0 && b.Cmp(second) == 0
}

// checkTurns lays the least and the greatest lower bits below two words. Whichever they are, what shorten tells must stand on the way.
func checkTurns(t *testing.T, x, y uint64) {
	t.Helper()
	for _, low := range [][2]uint64{{0, 0}, {0, ones}, {ones, 0}, {ones, ones}, {1, 2}, {1 << 63, 1<<63 - 1}} {
		a, b := ofWords(x, low[0]), ofWords(y, low[1])
		if order, _ := Cmp(a, b); order < 0 || y == 0 {
			continue
		}
		checkGcd(t, a, b)
		c, d := shorten(wordsOf(a), wordsOf(b))
		if !wholeWay(num(a), num(b), num(natOf(c)), num(natOf(d))) {
			t.Fatalf("of %s and %s: %s, %s", short(a), short(b), short(natOf(c)), short(natOf(d)))
		}
	}
}

// TestGcdEdges: P5.2; numbers whose highest bits just tell the next rest, or just do not. They are made from the end of the way, from two rests and the counts that lead to them.
func TestGcdEdges(t *testing.T) {
	s := newSource()
	for range 3000 {
		// u and v are how often a and b are in the rest ahead, nextU and nextV in the next one.
		u, v, nextU, nextV := uint64(0), uint64(1), uint64(1), 1+s.next()>>40%3
		for nextV < 1<<(27+s.next()>>40%5) {
			times := 1 + s.next()>>40%3
			u, v, nextU, nextV = nextU, nextV, u+times*nextU, v+times*nextV
		}
		for d := range uint64(5) {
			rest := nextV + d - 2
			checkWay(t, u, v, nextU, nextV, ones/nextV-v-d, rest)
			rest = ones/(v+nextV) - nextV
			checkWay(t, u, v, nextU, nextV, rest+v+nextV+d-2, rest)
		}
	}
}

// checkWay goes back from both rests to where the way began, if that is two words of which the first one has its highest bit.
func checkWay(t *testing.T, u, v, nextU, nextV, ahead, rest uint64) {
	t.Helper()
	back := func(m, n uint64) *big.Int {
		x := new(big.Int).Mul(new(big.Int).SetUint64(ahead), new(big.Int).SetUint64(n))
		return x.Add(x, new(big.Int).Mul(new(big.Int).SetUint64(rest), new(big.Int).SetUint64(m)))
	}
	if x, y := back(v, nextV), back(u, nextU); x.BitLen() == 64 {
		checkTurns(t, x.Uint64(), y.Uint64())
	}
}

// TestLongSums: P5.2; sums of the greatest length, and of one bit more.
func TestLongSums(t *testing.T) {
	s := newSource()
	random := s.bytes(16384)
	above := nat(new(big.Int).Sub(power(longest), num(random)))
	rows := []struct {
		what string
		a, b api.Nat
		long bool
	}{
		{"the greatest and 0", most(), "", false},
		{"0 and the greatest", "", most(), false},
		{"the greatest and 1", most(), small(1), true},
		{"1 and the greatest", small(1), most(), true},
		{"the greatest twice", most(), most(), true},
		{"half of the bound twice", mostTop(), mostTop(), true},
		{"half of the bound and all below", mostTop(), nat(plus(power(longest-1), -1)), false},
		{"two that come to the bound", random, above, true},
		{"two that come to one less", random, nat(plus(num(above), -1)), false},
	}
	for _, x := range rows {
		got, e := Add(x.a, x.b)
		if x.long {
			if got != "" || e != api.ErrLong {
				t.Errorf("Add, %s: %s, %v", x.what, short(got), e)
			}
			continue
		}
		checkNat(t, "Add, "+x.what, x.a, x.b, got, e, new(big.Int).Add(num(x.a), num(x.b)))
	}
}

// TestLongProducts: P5.2; products of the greatest length, and of one bit more: lengths alone do not tell them apart.
func TestLongProducts(t *testing.T) {
	s := newSource()
	half := nat(power(longest / 2))
	rows := []struct {
		what string
		a, b api.Nat
	}{
		{"the greatest and 0", most(), ""},
		{"the greatest and 1", most(), small(1)},
		{"the greatest and 2", most(), small(2)},
		{"the greatest twice", most(), most()},
		{"half of the bound and 2", mostTop(), small(2)},
		{"a quarter of the bound and 2", nat(power(longest - 2)), small(2)},
		{"a quarter of the bound and 3", nat(power(longest - 2)), small(3)},
		{"a quarter of the bound and 4", nat(power(longest - 2)), small(4)},
		{"a third of the bound, and 3", nat(new(big.Int).Div(power(longest), big.NewInt(3))), small(3)},
		{"a third of the bound, one more, and 3", nat(plus(new(big.Int).Div(power(longest), big.NewInt(3)), 1)), small(3)},
		{"its root twice", half, half},
		{"its root, and one less", half, nat(plus(num(half), -1))},
		{"its root, and half of that", half, nat(power(longest/2 - 1))},
		{"of half the bytes, twice", s.bytes(8192), s.bytes(8192)},
		{"of half the bytes, and one more", s.bytes(8192), s.bytes(8193)},
		{"of a few bytes, and the others", s.bytes(3), s.bytes(16381)},
	}
	for _, x := range rows {
		want := new(big.Int).Mul(num(x.a), num(x.b))
		for _, p := range [][2]api.Nat{{x.a, x.b}, {x.b, x.a}} {
			got, e := Mul(p[0], p[1])
			if want.BitLen() > longest {
				if got != "" || e != api.ErrLong {
					t.Errorf("Mul, %s: %s, %v", x.what, short(got), e)
				}
				continue
			}
			checkNat(t, "Mul, "+x.what, p[0], p[1], got, e, want)
		}
	}
}

// TestLongOthers: P5.2; what never gets longer, at the greatest length.
func TestLongOthers(t *testing.T) {
	s := newSource()
	a, b := s.bytes(16384), s.bytes(16384)
	for _, by := range []api.Nat{small(1), small(7), ofWords(ones), s.bytes(9), s.bytes(8192), s.bytes(16383), b, a, most(), mostTop()} {
		checkDiv(t, a, by)
		checkDiv(t, most(), by)
		checkDiv(t, mostTop(), by)
		diff, e := Sub(most(), by)
		checkNat(t, "Sub", most(), by, diff, e, new(big.Int).Sub(num(most()), num(by)))
	}
	checkDiv(t, small(7), most())
	checkSqrt(t, most())
	checkSqrt(t, mostTop())
	checkSqrt(t, nat(power(longest-2)))
	checkGcd(t, a, b)
	checkGcd(t, most(), mostTop())
	checkGcd(t, most(), most())
	checkGcd(t, most(), "")
	checkGcd(t, most(), small(15))
	common := num(s.bytes(9000))
	checkGcd(t, nat(new(big.Int).Mul(common, num(s.bytes(7000)))), nat(new(big.Int).Mul(common, num(s.bytes(7384)))))
}

// counts are those about the ends of bytes and words, and about the greatest length.
func counts() []int {
	out := []int{longest - 1, longest, longest + 1, 2 * longest, 1 << 31, 1<<32 + 1, math.MaxInt - longest, math.MaxInt - 1, math.MaxInt}
	for n := range 200 {
		out = append(out, n)
	}
	return out
}

var below = []int{-1, -2, -7, -8, -64, -longest, math.MinInt32, math.MinInt + 1, math.MinInt}

func checkLeft(t *testing.T, a api.Nat, n int) {
	t.Helper()
	got, e := Left(a, n)
	if a != "" && (n > longest || num(a).BitLen()+n > longest) {
		if got != "" || e != api.ErrLong {
			t.Fatalf("Left(%s, %d): %s, %v", short(a), n, short(got), e)
		}
		return
	}
	want := new(big.Int)
	if a != "" {
		want.Lsh(num(a), uint(n))
	}
	checkNat(t, "Left", a, "", got, e, want)
}

func checkRight(t *testing.T, a api.Nat, n int) {
	t.Helper()
	got, lost, e := Right(a, n)
	whole := new(big.Int).Rsh(num(a), uint(n))
	checkNat(t, "Right", a, "", got, e, whole)
	if left := a != "" && uint(n) > num(a).TrailingZeroBits(); lost != left {
		t.Fatalf("Right(%s, %d): lost %v", short(a), n, lost)
	}
}

// TestShifts: P5.3, held against math/big; the longest ones too, and those that are just too long.
func TestShifts(t *testing.T) {
	for _, a := range append(samples(), most(), mostTop(), nat(power(longest-9))) {
		length := num(a).BitLen()
		for _, n := range append(counts(), max(length-1, 0), length, length+1, max(longest-length-1, 0), longest-length, longest-length+1) {
			checkLeft(t, a, n)
			checkRight(t, a, n)
		}
	}
}

// TestShiftsExamples: P5.3, as the chapter has it, and the edges beside it; 0 is never too long.
func TestShiftsExamples(t *testing.T) {
	if a, e := Left(small(1), 131071); a != mostTop() || len(a) != 16384 || e != api.OK {
		t.Errorf("Left(1, 131071): %s, %v", short(a), e)
	}
	if a, e := Left(small(1), 131072); a != "" || e != api.ErrLong {
		t.Errorf("Left(1, 131072): %s, %v", short(a), e)
	}
	if a, e := Left(small(1), math.MaxInt); a != "" || e != api.ErrLong {
		t.Errorf("Left(1, the greatest count): %s, %v", short(a), e)
	}
	if a, e := Left("", math.MaxInt); a != "" || e != api.OK {
		t.Errorf("Left(0, the greatest count): %s, %v", short(a), e)
	}
	if a, lost, e := Right(small(5), 1); a != small(2) || !lost || e != api.OK {
		t.Errorf("Right(5, 1): %s, %v, %v", short(a), lost, e)
	}
	if a, lost, e := Right(small(4), 2); a != small(1) || lost || e != api.OK {
		t.Errorf("Right(4, 2): %s, %v, %v", short(a), lost, e)
	}
	if a, lost, e := Right(most(), math.MaxInt); a != "" || !lost || e != api.OK {
		t.Errorf("Right(the greatest, the greatest count): %s, %v, %v", short(a), lost, e)
	}
	if a, lost, e := Right("", math.MaxInt); a != "" || lost || e != api.OK {
		t.Errorf("Right(0, the greatest count): %s, %v, %v", short(a), lost, e)
	}
}

// TestShiftsBelow: P5.3; a count below 0 may not be, of 0 neither.
func TestShiftsBelow(t *testing.T) {
	for _, n := range below {
		for _, a := range append(samples(), most()) {
			if b, e := Left(a, n); b != "" || e != api.ErrArg {
				t.Errorf("Left(%s, %d): %s, %v", short(a), n, short(b), e)
			}
			if b, lost, e := Right(a, n); b != "" || lost || e != api.ErrArg {
				t.Errorf("Right(%s, %d): %s, %v, %v", short(a), n, short(b), lost, e)
			}
		}
	}
}

// TestTextRead: P5.4 and P5.5; Text is held against math/big, and read back.
func TestTextRead(t *testing.T) {
	s := newSource()
	all := append(samples(), most(), mostTop(), most()[1:], nat(power(longest-5)), s.bytes(16384), s.bytes(16383), "\x0f"+most()[1:])
	for x := range int64(5000) {
		all = append(all, small(x))
	}
	for _, a := range all {
		text, e := Text(a)
		if text != num(a).Text(16) || e != api.OK {
			t.Fatalf("Text(%s): %v", short(a), e)
		}
		if back, e := Read(text); back != a || e != api.OK {
			t.Fatalf("Read of Text of %s: %s, %v", short(a), short(back), e)
		}
	}
}

// TestReadWrong: P5.4; what Text tells of no number is none.
func TestReadWrong(t *testing.T) {
	texts := []string{
		"", " ", "00", "01", "0f", "000", "00ff", "F", "fF", "Ff", "1F", "g", "1g", "g1", "x", "0x1", "-1", "-0", "+1", " 1", "1 ", "1\n", "1.0", "1_0",
		"\x00", "1\x00", "\xff", "1\xff", "é", "１", "/", ":", "`", "@", "1/", "1:", "1`", "1G", "nothing",
		"0" + strings.Repeat("f", 32767), "0" + strings.Repeat("f", 32768), strings.Repeat("0", 32768), strings.Repeat("f", 32767) + "g", "F" + strings.Repeat("f", 32767),
		strings.Repeat("f", 32769), "1" + strings.Repeat("0", 32768), strings.Repeat("f", 1<<20), strings.Repeat("0", 1<<20),
	}
	for _, s := range texts {
		if a, e := Read(s); a != "" || e != api.ErrText {
			t.Errorf("Read(%.20q), of %d bytes: %s, %v", s, len(s), short(a), e)
		}
	}
	for c := range 256 {
		want := strings.IndexByte("0123456789abcdef", byte(c))
		for _, s := range []string{"1" + string([]byte{byte(c)}), "1" + string([]byte{byte(c)}) + "2", "12" + string([]byte{byte(c)})} {
			if a, e := Read(s); (e == api.OK) != (want >= 0) || e != api.OK && (a != "" || e != api.ErrText) {
				t.Errorf("Read(%q): %s, %v", s, short(a), e)
			}
		}
	}
}

// TestReadLongest: P5.4; 32768 digits are taken, and are the greatest number.
func TestReadLongest(t *testing.T) {
	if a, e := Read(strings.Repeat("f", 32768)); a != most() || e != api.OK {
		t.Errorf("Read of the greatest: %s, %v", short(a), e)
	}
	if a, e := Read("1" + strings.Repeat("0", 32767)); a != nat(power(longest-4)) || e != api.OK {
		t.Errorf("Read of the least one with 32768 digits: %s, %v", short(a), e)
	}
}

// TestExamples: P5.1 to P5.4, as the chapter has them.
func TestExamples(t *testing.T) {
	if a, e := Add("\xff", "\x01"); a != "\x01\x00" || e != api.OK {
		t.Errorf("Add(ff, 1): %x, %v", string(a), e)
	}
	if a, e := Sub("\x01", "\x02"); a != "" || e != api.ErrArg {
		t.Errorf("Sub(1, 2): %x, %v", string(a), e)
	}
	if a, e := Mul("", "\xff"); a != "" || e != api.OK {
		t.Errorf("Mul(0, ff): %x, %v", string(a), e)
	}
	if quo, rest, e := Div("\x07", ""); quo != "" || rest != "" || e != api.ErrArg {
		t.Errorf("Div(7, 0): %x, %x, %v", string(quo), string(rest), e)
	}
	if a, e := Gcd("\x0c", "\x12"); a != "\x06" || e != api.OK {
		t.Errorf("Gcd(12, 18): %x, %v", string(a), e)
	}
	if a, e := Gcd("", "\x05"); a != "\x05" || e != api.OK {
		t.Errorf("Gcd(0, 5): %x, %v", string(a), e)
	}
	if a, e := Gcd("", ""); a != "" || e != api.OK {
		t.Errorf("Gcd(0, 0): %x, %v", string(a), e)
	}
	if root, rest, e := Sqrt("\x11"); root != "\x04" || rest != "\x01" || e != api.OK {
		t.Errorf("Sqrt(17): %x, %x, %v", string(root), string(rest), e)
	}
	if root, rest, e := Sqrt(""); root != "" || rest != "" || e != api.OK {
		t.Errorf("Sqrt(0): %x, %x, %v", string(root), string(rest), e)
	}
	if s, e := Text("\xff"); s != "ff" || e != api.OK {
		t.Errorf("Text(255): %s, %v", s, e)
	}
	if s, e := Text(""); s != "0" || e != api.OK {
		t.Errorf("Text(0): %s, %v", s, e)
	}
	if a, e := Read("1f"); a != "\x1f" || e != api.OK {
		t.Errorf("Read(1f): %x, %v", string(a), e)
	}
	if a, e := Read("0"); a != "" || e != api.OK {
		t.Errorf("Read(0): %x, %v", string(a), e)
	}
}

// TestWrongNumbers: P5.2 to P5.4 and P0.1; one that may not be is ErrArg, on either side, beside whatever else, and zero values stand beside it.
func TestWrongNumbers(t *testing.T) {
	type call func(a, b api.Nat) (x, y api.Nat, n int, e api.Errno)
	one := func(f func(a, b api.Nat) (api.Nat, api.Errno)) call {
		return func(a, b api.Nat) (api.Nat, api.Nat, int, api.Errno) {
			x, e := f(a, b)
			return x, "", 0, e
		}
	}
	calls := map[string]call{
		"Add": one(Add), "Sub": one(Sub), "Mul": one(Mul), "Gcd": one(Gcd),
		"Cmp": func(a, b api.Nat) (api.Nat, api.Nat, int, api.Errno) {
			n, e := Cmp(a, b)
			return "", "", n, e
		},
		"Div": func(a, b api.Nat) (api.Nat, api.Nat, int, api.Errno) {
			quo, rest, e := Div(a, b)
			return quo, rest, 0, e
		},
	}
	fine := []api.Nat{"", small(1), small(2), ofWords(1, 2, 3), most()}
	for name, f := range calls {
		check := func(a, b api.Nat) {
			if x, y, n, e := f(a, b); x != "" || y != "" || n != 0 || e != api.ErrArg {
				t.Errorf("%s of numbers that may not be, of %d and %d bytes: %s, %s, %d, %v", name, len(a), len(b), short(x), short(y), n, e)
			}
		}
		for _, a := range wrong() {
			for _, b := range append(fine, wrong()...) {
				check(a, b)
				check(b, a)
			}
		}
	}
}

// TestWrongNumber: P5.2 to P5.4 and P0.1; the calls that take one number.
func TestWrongNumber(t *testing.T) {
	for _, a := range wrong() {
		for _, n := range append(counts(), below...) {
			if b, e := Left(a, n); b != "" || e != api.ErrArg {
				t.Errorf("Left of one that may not be, of %d bytes, by %d: %s, %v", len(a), n, short(b), e)
			}
			if b, lost, e := Right(a, n); b != "" || lost || e != api.ErrArg {
				t.Errorf("Right of one that may not be, of %d bytes, by %d: %s, %v, %v", len(a), n, short(b), lost, e)
			}
		}
		if root, rest, e := Sqrt(a); root != "" || rest != "" || e != api.ErrArg {
			t.Errorf("Sqrt of one that may not be, of %d bytes: %s, %s, %v", len(a), short(root), short(rest), e)
		}
		if s, e := Text(a); s != "" || e != api.ErrArg {
			t.Errorf("Text of one that may not be, of %d bytes: %.20q, %v", len(a), s, e)
		}
	}
}

// must panics at an error: a law held against a wrong number would tell nothing.
func must(a api.Nat, e api.Errno) api.Nat {
	if e != api.OK {
		panic(e.Error())
	}
	return a
}

// TestRing: P5.5; the laws of sums and products, by the package's own answers alone.
func TestRing(t *testing.T) {
	s := newSource()
	for range 10000 {
		a, b, c := s.number(5), s.number(5), s.number(5)
		if must(Add(a, b)) != must(Add(b, a)) || must(Mul(a, b)) != must(Mul(b, a)) {
			t.Fatalf("the other way round: %s, %s", short(a), short(b))
		}
		if must(Add(must(Add(a, b)), c)) != must(Add(a, must(Add(b, c)))) || must(Mul(must(Mul(a, b)), c)) != must(Mul(a, must(Mul(b, c)))) {
			t.Fatalf("in whatever bracket: %s, %s, %s", short(a), short(b), short(c))
		}
		if must(Mul(a, must(Add(b, c)))) != must(Add(must(Mul(a, b)), must(Mul(a, c)))) {
			t.Fatalf("a product of a sum: %s, %s, %s", short(a), short(b), short(c))
		}
		if must(Add(a, "")) != a || must(Mul(a, Of(1))) != a || must(Mul(a, "")) != "" || must(Sub(a, a)) != "" || must(Sub(must(Add(a, b)), b)) != a {
			t.Fatalf("0 and 1, and back: %s, %s", short(a), short(b))
		}
	}
}

// TestQuotientsAndDivisors: P5.5; quotient times b, and what is left, is a, and that is below b; the greatest common divisor divides both, and what divides both divides it.
func TestQuotientsAndDivisors(t *testing.T) {
	s := newSource()
	rest := func(a, b api.Nat) api.Nat {
		_, r, e := Div(a, b)
		return must(r, e)
	}
	for range 10000 {
		a, b, c := s.number(6), s.number(4), s.number(3)
		if b == "" || c == "" {
			continue
		}
		quo, left, e := Div(a, b)
		must(quo, e)
		if order, _ := Cmp(left, b); order != -1 || must(Add(must(Mul(quo, b)), left)) != a {
			t.Fatalf("Div(%s, %s): %s, %s", short(a), short(b), short(quo), short(left))
		}
		if g := must(Gcd(a, b)); rest(a, g) != "" || rest(b, g) != "" {
			t.Fatalf("Gcd(%s, %s): %s", short(a), short(b), short(g))
		}
		if g := must(Gcd(must(Mul(a, c)), must(Mul(b, c)))); rest(g, c) != "" || g != must(Mul(must(Gcd(a, b)), c)) {
			t.Fatalf("Gcd(%s, %s), both times %s: %s", short(a), short(b), short(c), short(g))
		}
	}
}

// TestSame: P0.1; what a call answers hangs on its arguments alone, and these are as they were.
func TestSame(t *testing.T) {
	w := api.Wide{1, 2, 3, 4, 5, 6}
	a, b := OfWide(w), small(77)
	text := "123456789abcdef0"
	for range 3 {
		first, _, _ := Div(a, b)
		second, _, _ := Div(a, b)
		read, _ := Read(text)
		if first != second || a != OfWide(w) || w != (api.Wide{1, 2, 3, 4, 5, 6}) || b != small(77) || read != ofWords(0x123456789abcdef0) {
			t.Errorf("an argument, or an answer, is another")
		}
	}
}
