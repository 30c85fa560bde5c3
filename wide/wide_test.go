package wide

import (
	"math"
	"math/big"
	"strings"
	"testing"

	"abacus/api"
)

const ones = math.MaxUint64

// all is 2^384 - 1.
var all = api.Wide{ones, ones, ones, ones, ones, ones}

// wildCounts are counts outside a Wide, some of which would be harmless if only their low bits were looked at, or wrap if anything is taken from them.
var wildCounts = []int{
	math.MinInt, math.MinInt + 1, math.MinInt + 384, math.MinInt32, -512, -385, -384, -128, -65, -64, -63, -2, -1,
	385, 386, 447, 448, 449, 511, 512, 513, 768, 1 << 16, 1 << 32, 1<<32 + 1, math.MaxInt32, math.MaxInt - 384, math.MaxInt - 1, math.MaxInt,
}

// counts are all counts within a Wide, and some outside.
func counts() []int {
	out := append([]int{}, wildCounts...)
	for n := range 385 {
		out = append(out, n)
	}
	return out
}

// fewCounts are those at which words begin and end.
func fewCounts() []int {
	out := append([]int{}, wildCounts...)
	for n := 0; n <= 384; n += 64 {
		out = append(out, max(n-1, 0), n, min(n+1, 384), min(n+29, 384))
	}
	return out
}

// bound is the chapter's section 'Words', said once more.
func bound(n int) uint {
	if n < 0 {
		return 0
	}
	if n > 384 {
		return 384
	}
	return uint(n)
}

// edges are the numbers where carries go through one word, several, or all.
func edges() []api.Wide {
	out := []api.Wide{
		{}, {1}, {2}, {3}, {5}, {255}, {ones}, {ones - 1}, {1 << 63}, {1<<63 - 1},
		{0, 1}, {ones, 1}, {0, ones}, {ones, ones}, {1, ones}, {0, 0, 1}, {1, 0, 1}, {ones, ones, 1},
		{ones, ones, ones}, {0, 0, 0, 1}, {1, 0, 0, 0, 0, 1}, {0, 0, 0, 0, 0, 1}, {0, 0, 0, 0, 0, 1 << 63},
		{ones, ones, ones, ones, ones, 1<<63 - 1}, {0, ones, ones, ones, ones, ones}, {ones - 1, ones, ones, ones, ones, ones},
		{ones, 0, ones, 0, ones, 0}, {0, ones, 0, ones, 0, ones}, {ones, ones, ones, ones, ones}, {0, 0, 0, ones, ones, ones},
		{0x0123456789abcdef, 0xfedcba9876543210, 1, 0, 0xdeadbeef, 0x8000000000000001},
	}
	return append(out, all)
}

// some tells n numbers of all lengths, always the same ones.
func some(n int) []api.Wide {
	out := make([]api.Wide, 0, n)
	seed := uint64(0x9e3779b97f4a7c15)
	for range n {
		var w api.Wide
		for i := range w {
			seed ^= seed << 13
			seed ^= seed >> 7
			seed ^= seed << 17
			w[i] = seed
		}
		r := new(big.Int).Rsh(num(w), uint(seed%384))
		out = append(out, wide(r))
	}
	return out
}

func samples() []api.Wide {
	out := append(edges(), some(120)...)
	for i := range uint(384) {
		p := power(i)
		out = append(out, wide(p), wide(new(big.Int).Sub(p, big.NewInt(1))))
	}
	return out
}

func fewSamples() []api.Wide {
	return append(edges(), some(24)...)
}

func power(n uint) *big.Int { return new(big.Int).Lsh(big.NewInt(1), n) }

// num is what a Wide is worth, by the words of package api: the lowest first.
func num(w api.Wide) *big.Int {
	n := new(big.Int)
	for i := 5; i >= 0; i-- {
		n.Lsh(n, 64)
		n.Add(n, new(big.Int).SetUint64(w[i]))
	}
	return n
}

// wide is n modulo 2^384 (Mod of a number below 0 goes up).
func wide(n *big.Int) api.Wide {
	var w api.Wide
	r := new(big.Int).Mod(n, power(384))
	for i := range w {
		w[i] = new(big.Int).Mod(r, power(64)).Uint64()
		r.Rsh(r, 64)
	}
	return w
}

func isOver(n *big.Int) bool { return n.Cmp(power(384)) >= 0 }

// TestOf: P2.1, words and bits as numbers.
func TestOf(t *testing.T) {
	for _, w := range samples() {
		x, y := w[0], w[1]
		if got := Of(x); num(got).Cmp(new(big.Int).SetUint64(x)) != 0 {
			t.Errorf("Of(%#x): %v", x, got)
		}
		want := new(big.Int).SetUint64(x)
		want.Mul(want, power(64))
		want.Add(want, new(big.Int).SetUint64(y))
		if got := OfBits(api.Bits{Hi: x, Lo: y}); num(got).Cmp(want) != 0 {
			t.Errorf("OfBits(%#x, %#x): %v", x, y, got)
		}
	}
	if got := OfBits(api.Bits{Hi: 1, Lo: 2}); got != (api.Wide{2, 1}) {
		t.Errorf("OfBits(1, 2): %v", got)
	}
}

// TestToBits: P2.1; what is 2^128 or more has no bits to tell.
func TestToBits(t *testing.T) {
	for _, w := range samples() {
		b, fits := ToBits(w)
		if num(w).Cmp(power(128)) >= 0 {
			if fits || b != (api.Bits{}) {
				t.Errorf("ToBits(%v): %v, %v; wanted none, false", w, b, fits)
			}
			continue
		}
		if !fits || b.Hi != w[1] || b.Lo != w[0] {
			t.Errorf("ToBits(%v): %v, %v", w, b, fits)
		}
	}
	rows := []struct {
		w    api.Wide
		b    api.Bits
		fits bool
	}{
		{api.Wide{}, api.Bits{}, true},
		{api.Wide{0, 1}, api.Bits{Hi: 1}, true},
		{api.Wide{ones, ones}, api.Bits{Hi: ones, Lo: ones}, true},
		{api.Wide{0, 0, 1}, api.Bits{}, false},
		{api.Wide{5, 6, 0, 0, 0, 1}, api.Bits{}, false},
		{api.Wide{5, 6, 0, 1}, api.Bits{}, false},
		{api.Wide{5, 6, 0, 0, 1}, api.Bits{}, false},
		{all, api.Bits{}, false},
	}
	for _, x := range rows {
		if b, fits := ToBits(x.w); b != x.b || fits != x.fits {
			t.Errorf("ToBits(%v): %v, %v", x.w, b, fits)
		}
	}
}

// TestCmp: P2.1.
func TestCmp(t *testing.T) {
	for _, a := range samples() {
		for _, b := range fewSamples() {
			want := num(a).Cmp(num(b))
			if got := Cmp(a, b); got != want {
				t.Fatalf("Cmp(%v, %v): %d, wanted %d", a, b, got, want)
			}
			if got := Cmp(b, a); got != -want {
				t.Fatalf("Cmp(%v, %v): %d, wanted %d", b, a, got, -want)
			}
		}
		if got := Cmp(a, a); got != 0 {
			t.Fatalf("Cmp(%v, it): %d", a, got)
		}
	}
	// The highest word that is unlike decides, though all below say otherwise.
	if got := Cmp(api.Wide{0, 0, 0, 0, 0, 2}, api.Wide{ones, ones, ones, ones, ones, 1}); got != 1 {
		t.Errorf("Cmp of 2 and 1 in the highest word: %d", got)
	}
}

// TestSums: P2.2, Add and Sub.
func TestSums(t *testing.T) {
	for _, a := range samples() {
		for _, b := range fewSamples() {
			n := new(big.Int).Add(num(a), num(b))
			if sum, over := Add(a, b); sum != wide(n) || over != isOver(n) {
				t.Fatalf("Add(%v, %v): %v, %v", a, b, sum, over)
			}
			n.Sub(num(a), num(b))
			if diff, under := Sub(a, b); diff != wide(n) || under != (n.Sign() < 0) {
				t.Fatalf("Sub(%v, %v): %v, %v", a, b, diff, under)
			}
		}
	}
}

// TestSumEdges: P2.2, carries that go through all words.
func TestSumEdges(t *testing.T) {
	sums := []struct {
		a, b, sum api.Wide
		over      bool
	}{
		{all, Of(1), api.Wide{}, true},
		{all, api.Wide{}, all, false},
		{all, all, api.Wide{ones - 1, ones, ones, ones, ones, ones}, true},
		{api.Wide{ones, ones, ones, ones, ones}, Of(1), api.Wide{0, 0, 0, 0, 0, 1}, false},
		{api.Wide{0, 0, 0, 0, 0, 1 << 63}, api.Wide{0, 0, 0, 0, 0, 1 << 63}, api.Wide{}, true},
		{api.Wide{}, api.Wide{}, api.Wide{}, false},
	}
	for _, x := range sums {
		if sum, over := Add(x.a, x.b); sum != x.sum || over != x.over {
			t.Errorf("Add(%v, %v): %v, %v", x.a, x.b, sum, over)
		}
	}
	diffs := []struct {
		a, b, diff api.Wide
		under      bool
	}{
		{api.Wide{}, Of(1), all, true},
		{api.Wide{}, all, Of(1), true},
		{all, all, api.Wide{}, false},
		{api.Wide{0, 0, 0, 0, 0, 1}, Of(1), api.Wide{ones, ones, ones, ones, ones}, false},
		{Of(4), Of(5), all, true},
		{Of(5), Of(4), Of(1), false},
	}
	for _, x := range diffs {
		if diff, under := Sub(x.a, x.b); diff != x.diff || under != x.under {
			t.Errorf("Sub(%v, %v): %v, %v", x.a, x.b, diff, under)
		}
	}
}

// TestMul: P2.2; just below 2^384, just there, and far above.
func TestMul(t *testing.T) {
	for _, a := range samples() {
		for _, b := range fewSamples() {
			n := new(big.Int).Mul(num(a), num(b))
			if product, over := Mul(a, b); product != wide(n) || over != isOver(n) {
				t.Fatalf("Mul(%v, %v): %v, %v", a, b, product, over)
			}
		}
	}
	for i := range uint(384) {
		low := wide(power(i))
		for j := range uint(384) {
			product, over := Mul(low, wide(power(j)))
			if product != wide(power(i+j)) || over != (i+j >= 384) {
				t.Fatalf("Mul(2^%d, 2^%d): %v, %v", i, j, product, over)
			}
		}
	}
	half := api.Wide{ones, ones, ones}
	if product, over := Mul(half, half); product != (api.Wide{1, 0, 0, ones - 1, ones, ones}) || over {
		t.Errorf("Mul(2^192 - 1, 2^192 - 1): %v, %v", product, over)
	}
	if product, over := Mul(all, all); product != Of(1) || !over {
		t.Errorf("Mul(2^384 - 1, 2^384 - 1): %v, %v", product, over)
	}
	if product, over := Mul(all, api.Wide{}); product != (api.Wide{}) || over {
		t.Errorf("Mul(2^384 - 1, 0): %v, %v", product, over)
	}
}

func checkShifts(t *testing.T, a api.Wide, n int) {
	by := power(bound(n))
	whole := new(big.Int).Mul(num(a), by)
	if b, lost := Left(a, n); b != wide(whole) || lost != isOver(whole) {
		t.Fatalf("Left(%v, %d): %v, %v", a, n, b, lost)
	}
	quo, rest := new(big.Int).QuoRem(num(a), by, new(big.Int))
	if b, lost := Right(a, n); b != wide(quo) || lost != (rest.Sign() != 0) {
		t.Fatalf("Right(%v, %d): %v, %v", a, n, b, lost)
	}
}

// TestShifts: P2.3, by all counts.
func TestShifts(t *testing.T) {
	for _, n := range counts() {
		for _, a := range fewSamples() {
			checkShifts(t, a, n)
		}
	}
	for _, n := range fewCounts() {
		for _, a := range samples() {
			checkShifts(t, a, n)
		}
	}
}

// TestShiftExamples: P2.3, as the chapter has it, and beside it.
func TestShiftExamples(t *testing.T) {
	last := api.Wide{0, 0, 0, 0, 0, 1 << 63}
	rows := []struct {
		what  string
		shift func(api.Wide, int) (api.Wide, bool)
		a     api.Wide
		n     int
		b     api.Wide
		lost  bool
	}{
		{"Left(1, 383)", Left, Of(1), 383, last, false},
		{"Left(3, 383)", Left, Of(3), 383, last, true},
		{"Left(1, 384)", Left, Of(1), 384, api.Wide{}, true},
		{"Left(0, 384)", Left, api.Wide{}, 384, api.Wide{}, false},
		{"Left(0, 999)", Left, api.Wide{}, 999, api.Wide{}, false},
		{"Left(5, -1)", Left, Of(5), -1, Of(5), false},
		{"Left(1, 64)", Left, Of(1), 64, api.Wide{0, 1}, false},
		{"Right(5, 1)", Right, Of(5), 1, Of(2), true},
		{"Right(5, 999)", Right, Of(5), 999, api.Wide{}, true},
		{"Right(0, 999)", Right, api.Wide{}, 999, api.Wide{}, false},
		{"Right(5, -999)", Right, Of(5), -999, Of(5), false},
		{"Right(2^383, 383)", Right, last, 383, Of(1), false},
		{"Right(2^383, 384)", Right, last, 384, api.Wide{}, true},
		{"Right(2^64, 64)", Right, api.Wide{0, 1}, 64, Of(1), false},
	}
	for _, x := range rows {
		if b, lost := x.shift(x.a, x.n); b != x.b || lost != x.lost {
			t.Errorf("%s: %v, %v", x.what, b, lost)
		}
	}
}

// TestBits: P2.4, Len, Low and Bit, held against what math/big tells of each place.
func TestBits(t *testing.T) {
	for _, a := range samples() {
		n := num(a)
		low := 384
		for i := 383; i >= 0; i-- {
			want := n.Bit(i) == 1
			if want {
				low = i
			}
			if got := Bit(a, i); got != want {
				t.Fatalf("Bit(%v, %d): %v", a, i, got)
			}
		}
		if Len(a) != n.BitLen() || Low(a) != low {
			t.Fatalf("Len, Low of %v: %d, %d; wanted %d, %d", a, Len(a), Low(a), n.BitLen(), low)
		}
	}
	if Len(api.Wide{}) != 0 || Len(all) != 384 || Low(api.Wide{}) != 384 || Low(all) != 0 {
		t.Errorf("Len, Low of 0 and of 2^384 - 1: %d, %d; %d, %d", Len(api.Wide{}), Len(all), Low(api.Wide{}), Low(all))
	}
}

// TestNoPlace: P2.4; a place that is none has no bit that is 1.
func TestNoPlace(t *testing.T) {
	for _, i := range append([]int{384}, wildCounts...) {
		if Bit(all, i) {
			t.Errorf("Bit(2^384 - 1, %d): true", i)
		}
	}
	if !Bit(Of(5), 0) || Bit(Of(5), 1) || !Bit(Of(5), 2) || !Bit(all, 383) {
		t.Errorf("Bit at 0, 1, 2 of 5, at 383 of 2^384 - 1: %v, %v, %v, %v", Bit(Of(5), 0), Bit(Of(5), 1), Bit(Of(5), 2), Bit(all, 383))
	}
}

// TestMask: P2.4.
func TestMask(t *testing.T) {
	for _, n := range counts() {
		want := new(big.Int).Sub(power(bound(n)), big.NewInt(1))
		if got := Mask(n); num(got).Cmp(want) != 0 {
			t.Errorf("Mask(%d): %v", n, got)
		}
	}
}

// TestBitByBit: P2.4, And, Or, Not.
func TestBitByBit(t *testing.T) {
	for _, a := range samples() {
		for _, b := range fewSamples() {
			if got := And(a, b); num(got).Cmp(new(big.Int).And(num(a), num(b))) != 0 {
				t.Fatalf("And(%v, %v): %v", a, b, got)
			}
			if got := Or(a, b); num(got).Cmp(new(big.Int).Or(num(a), num(b))) != 0 {
				t.Fatalf("Or(%v, %v): %v", a, b, got)
			}
		}
		if got := Not(a); num(got).Cmp(new(big.Int).Sub(num(all), num(a))) != 0 {
			t.Fatalf("Not(%v): %v", a, got)
		}
	}
}

// TestText: P2.5, there and back; math/big writes these numbers in the same form.
func TestText(t *testing.T) {
	for _, a := range samples() {
		want := num(a).Text(16)
		if got := Text(a); got != want {
			t.Fatalf("Text(%v): %q, wanted %q", a, got, want)
		}
		if w, e := Read(want); w != a || e != api.OK {
			t.Fatalf("Read(%q): %v, %v", want, w, e)
		}
	}
	rows := []struct {
		a api.Wide
		s string
	}{
		{api.Wide{}, "0"},
		{Of(1), "1"},
		{Of(9), "9"},
		{Of(10), "a"},
		{Of(15), "f"},
		{Of(16), "10"},
		{Of(255), "ff"},
		{api.Wide{0, 1}, "1" + strings.Repeat("0", 16)},
		{api.Wide{0xfedcba9876543210, 0x123456789abcdef}, "123456789abcdeffedcba9876543210"},
		{all, strings.Repeat("f", 96)},
	}
	for _, x := range rows {
		if got := Text(x.a); got != x.s {
			t.Errorf("Text(%v): %q, wanted %q", x.a, got, x.s)
		}
		if w, e := Read(x.s); w != x.a || e != api.OK {
			t.Errorf("Read(%q): %v, %v", x.s, w, e)
		}
	}
}

// TestReadBytes: P2.5; each byte alone, ahead of digits, among them and behind them.
func TestReadBytes(t *testing.T) {
	for c := range 256 {
		s := string([]byte{byte(c)})
		n, ok := new(big.Int).SetString(s, 16)
		isDigit := ok && s == strings.ToLower(s)
		checkRead(t, s, n, isDigit)
		for _, form := range [][2]string{{"", "1"}, {"1", ""}, {"a", "f"}, {"", strings.Repeat("7", 95)}, {strings.Repeat("7", 95), ""}} {
			s := form[0] + string([]byte{byte(c)}) + form[1]
			n, _ := new(big.Int).SetString(s, 16)
			checkRead(t, s, n, isDigit && s[0] != '0')
		}
	}
}

func checkRead(t *testing.T, s string, n *big.Int, right bool) {
	w, e := Read(s)
	if !right {
		if w != (api.Wide{}) || e != api.ErrText {
			t.Errorf("Read(%q): %v, %v; wanted ErrText", s, w, e)
		}
		return
	}
	if num(w).Cmp(n) != 0 || e != api.OK {
		t.Errorf("Read(%q): %v, %v; wanted %v", s, w, e, n)
	}
}

// TestReadWrong: P2.5; what Text answers of no number, zero values beside the error.
func TestReadWrong(t *testing.T) {
	wrong := []string{
		"", " ", "00", "01", "0ff", "000", "FF", "fF", "Ff", "g", "0x1", "x", "-1", "+1", "-0", " 1", "1 ", "1\n", "1_0", "1.0", "\x00", "1\x00", "\xff", "é", "１", "f\u0660",
		"1" + strings.Repeat("0", 96), strings.Repeat("f", 97), "0" + strings.Repeat("f", 96), strings.Repeat("0", 96), strings.Repeat("0", 97), "f" + strings.Repeat("0", 95) + "g",
		strings.Repeat("f", 96*2), strings.Repeat("f", 1<<20), strings.Repeat("0", 1<<20), strings.Repeat("g", 1<<20),
	}
	for _, s := range wrong {
		if w, e := Read(s); w != (api.Wide{}) || e != api.ErrText {
			t.Errorf("Read of %d bytes, %.40q: %v, %v; wanted ErrText", len(s), s, w, e)
		}
	}
}

// TestWayRound: P2.6, sums and products the other way round.
func TestWayRound(t *testing.T) {
	for _, a := range samples() {
		for _, b := range fewSamples() {
			sum, over := Add(a, b)
			if other, o := Add(b, a); other != sum || o != over {
				t.Fatalf("Add of %v and %v: %v, %v, the other way round %v, %v", a, b, sum, over, other, o)
			}
			product, over := Mul(a, b)
			if other, o := Mul(b, a); other != product || o != over {
				t.Fatalf("Mul of %v and %v: %v, %v, the other way round %v, %v", a, b, product, over, other, o)
			}
		}
	}
}

func add(a, b api.Wide) api.Wide {
	sum, _ := Add(a, b)
	return sum
}

func mul(a, b api.Wide) api.Wide {
	product, _ := Mul(a, b)
	return product
}

// TestBrackets: P2.6, sums and products in whatever bracket, and a product of a sum.
func TestBrackets(t *testing.T) {
	for _, a := range fewSamples() {
		for _, b := range fewSamples() {
			for _, c := range fewSamples() {
				if add(add(a, b), c) != add(a, add(b, c)) {
					t.Fatalf("sums of %v, %v, %v", a, b, c)
				}
				if mul(mul(a, b), c) != mul(a, mul(b, c)) {
					t.Fatalf("products of %v, %v, %v", a, b, c)
				}
				if mul(a, add(b, c)) != add(mul(a, b), mul(a, c)) {
					t.Fatalf("%v times the sum of %v and %v", a, b, c)
				}
			}
		}
	}
}

// TestBack: P2.6; sums, shifts and texts lead back.
func TestBack(t *testing.T) {
	for _, a := range samples() {
		for _, b := range fewSamples() {
			sum, over := Add(a, b)
			if diff, under := Sub(sum, b); diff != a || under != over {
				t.Fatalf("Sub(Add(%v, %v), it): %v, %v", a, b, diff, under)
			}
		}
		for _, n := range fewCounts() {
			up, lost := Left(a, n)
			if lost {
				continue
			}
			if back, lost := Right(up, n); back != a || lost {
				t.Fatalf("Right(Left(%v, %d), %d): %v, %v", a, n, n, back, lost)
			}
		}
		if w, e := Read(Text(a)); w != a || e != api.OK {
			t.Fatalf("Read(Text(%v)): %v, %v", a, w, e)
		}
	}
}

// answers is what all calls answer at one set of arguments.
type answers struct {
	wides [12]api.Wide
	bits  api.Bits
	bools [7]bool
	ints  [3]int
	text  string
	e     api.Errno
}

func ask(a, b api.Wide, n int, s string) answers {
	var x answers
	x.wides[0], x.wides[1] = Of(a[0]), OfBits(api.Bits{Hi: a[0], Lo: b[0]})
	x.bits, x.bools[0] = ToBits(a)
	x.wides[2], x.bools[1] = Add(a, b)
	x.wides[3], x.bools[2] = Sub(a, b)
	x.wides[4], x.bools[3] = Mul(a, b)
	x.wides[5], x.bools[4] = Left(a, n)
	x.wides[6], x.bools[5] = Right(a, n)
	x.bools[6] = Bit(a, n)
	x.ints = [3]int{Cmp(a, b), Len(a), Low(a)}
	x.wides[7], x.wides[8], x.wides[9], x.wides[10] = Mask(n), And(a, b), Or(a, b), Not(a)
	x.text = Text(a)
	x.wides[11], x.e = Read(s)
	return x
}

// TestArgumentsAlone: P0.1; no argument makes a call panic, what was asked between does not change an answer, and no argument is another behind a call.
func TestArgumentsAlone(t *testing.T) {
	texts := []string{"", "0", "00", "ff", "FF", strings.Repeat("f", 96), strings.Repeat("f", 97), "\xff"}
	ns := fewCounts()
	list := fewSamples()
	for i, a := range list {
		b := list[(i*7+3)%len(list)]
		keptA, keptB := a, b
		for j, n := range ns {
			s := texts[j%len(texts)]
			first := ask(a, b, n, s)
			ask(b, a, ns[(j*5+2)%len(ns)], texts[(j+3)%len(texts)])
			if again := ask(a, b, n, s); again != first {
				t.Fatalf("at %v, %v, %d, %q: %v, then %v", a, b, n, s, first, again)
			}
		}
		if a != keptA || b != keptB {
			t.Fatalf("%v, %v became %v, %v", keptA, keptB, a, b)
		}
	}
}
