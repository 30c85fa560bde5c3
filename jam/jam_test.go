package jam

import (
	"math"
	"math/big"
	"testing"

	"abacus/api"
	"abacus/wide"
)

const ones = math.MaxUint64

var (
	zero = api.Wide{}
	// all is 2^384 - 1, top 2^383.
	all = api.Wide{ones, ones, ones, ones, ones, ones}
	top = api.Wide{0, 0, 0, 0, 0, 1 << 63}
)

// farCounts count as 0 or as 385; some would be another count if only their low bits were looked at, or if they wrapped.
var farCounts = []int{
	math.MinInt, math.MinInt + 1, math.MinInt32, -1 << 32, -512, -385, -384, -64, -2, -1,
	386, 387, 400, 448, 512, 768, 1 << 16, 1 << 32, 1<<32 + 1, math.MaxInt32, math.MaxInt - 1, math.MaxInt,
}

// counts are those from 0 to 385, and the far ones.
func counts() []int {
	out := append([]int(nil), farCounts...)
	for n := range 386 {
		out = append(out, n)
	}
	return out
}

// fewCounts are the counts at which words begin and end, the last ones, and the far ones.
func fewCounts() []int {
	out := append([]int{2, 3, 29, 95, 200, 382, 383, 385}, farCounts...)
	for n := 0; n <= 384; n += 64 {
		out = append(out, n, n+1, max(n-1, 0))
	}
	return out
}

// meant is the count that n counts as, by the chapter's words.
func meant(n int) uint {
	if n < 0 {
		return 0
	}
	if n > 385 {
		return 385
	}
	return uint(n)
}

func edges() []api.Wide {
	return []api.Wide{
		zero, {1}, {2}, {3}, {4}, {5}, {6}, {7}, {8}, {9}, {ones}, {ones - 1}, {1 << 63}, {1<<63 + 1}, {1<<63 - 1}, {1 << 32},
		{0, 1}, {1, 1}, {ones, 1}, {0, ones}, {ones, ones}, {1, ones}, {0, 0, 1}, {1, 0, 1}, {0, 0, 0, 1}, {1, 0, 0, 1},
		{1, 0, 0, 0, 0, 1}, {0, 0, 0, 0, 0, 1}, {0, 0, 0, 0, 1 << 63, 1}, top, {1, 0, 0, 0, 0, 1 << 63}, {0, 0, 0, 0, 0, 3 << 62}, {0, 0, 0, 0, 0, 1 << 62},
		{ones, ones, ones, ones, ones, 1<<63 - 1}, {0, ones, ones, ones, ones, ones}, {ones - 1, ones, ones, ones, ones, ones},
		{ones, 0, ones, 0, ones, 0}, {0, ones, 0, ones, 0, ones}, {ones, ones, ones, ones, ones}, {0, 0, 0, ones, ones, ones},
		{0x0123456789abcdef, 0xfedcba9876543210, 1, 0, 0xdeadbeef, 0x8000000000000001}, all,
	}
}

// some tells n numbers of all lengths, always the same ones; every other one has noughts below.
func some(n int) []api.Wide {
	out := make([]api.Wide, 0, n)
	seed := uint64(0x9e3779b97f4a7c15)
	for i := range n {
		var w api.Wide
		for j := range w {
			seed ^= seed << 13
			seed ^= seed >> 7
			seed ^= seed << 17
			w[j] = seed
		}
		x := new(big.Int).Rsh(num(w), uint(seed%384))
		if i%2 == 1 {
			x.Lsh(x, uint(seed>>9)%uint(385-x.BitLen()))
		}
		out = append(out, fromBig(x))
	}
	return out
}

func samples() []api.Wide {
	return append(edges(), some(60)...)
}

func bigPower(n uint) *big.Int { return new(big.Int).Lsh(big.NewInt(1), n) }

// num and fromBig go by the texts of package wide, which its own tests hold against the words.

func num(w api.Wide) *big.Int {
	n, _ := new(big.Int).SetString(wide.Text(w), 16)
	return n
}

// fromBig panics at what is no Wide: an answer held against some other number would tell nothing.
func fromBig(n *big.Int) api.Wide {
	w, e := wide.Read(n.Text(16))
	if e != api.OK {
		panic("no Wide: " + n.String())
	}
	return w
}

// parts tells a by 2^n, the whole part, and what is left.
func parts(a api.Wide, n int) (whole, rest *big.Int) {
	return new(big.Int).QuoRem(num(a), bigPower(meant(n)), new(big.Int))
}

// jammed is the whole part with its lowest bit 1, if anything was left.
func jammed(whole, rest *big.Int) api.Wide {
	if rest.Sign() != 0 {
		whole = new(big.Int).SetBit(whole, 0, 1)
	}
	return fromBig(whole)
}

func checkRight(t *testing.T, a api.Wide, n int) {
	t.Helper()
	whole, rest := parts(a, n)
	if got, want := Right(a, n), jammed(whole, rest); got != want {
		t.Fatalf("Right(%v, %d): %v; wanted %v", a, n, got, want)
	}
}

func checkAlign(t *testing.T, a api.Wide, n int) {
	t.Helper()
	whole, rest := parts(a, n)
	if b, more := Align(a, n); b != fromBig(whole) || more != (rest.Sign() != 0) {
		t.Fatalf("Align(%v, %d): %v, %v; wanted %v and what is left %v", a, n, b, more, whole, rest)
	}
}

// halfOf tells how what is left by n stands to 2^(n-1).
func halfOf(rest *big.Int, n int) int {
	if meant(n) == 0 {
		return -1
	}
	return rest.Cmp(bigPower(meant(n) - 1))
}

func checkCut(t *testing.T, a api.Wide, n int) {
	t.Helper()
	whole, rest := parts(a, n)
	want := halfOf(rest, n)
	if kept, half, exact := Cut(a, n); kept != fromBig(whole) || half != want || exact != (rest.Sign() == 0) {
		t.Fatalf("Cut(%v, %d): %v, %d, %v; wanted %v, %d and what is left %v", a, n, kept, half, exact, whole, want, rest)
	}
}

// TestRight: P4.1, held against math/big at all counts.
func TestRight(t *testing.T) {
	for _, n := range counts() {
		for _, a := range samples() {
			checkRight(t, a, n)
		}
	}
}

// TestAlign: P4.1, held against math/big at all counts.
func TestAlign(t *testing.T) {
	for _, n := range counts() {
		for _, a := range samples() {
			checkAlign(t, a, n)
		}
	}
}

// TestCut: P4.2, held against math/big at all counts.
func TestCut(t *testing.T) {
	for _, n := range counts() {
		for _, a := range samples() {
			checkCut(t, a, n)
		}
	}
}

// TestAtTheHalf: P4.1 and P4.2; at each count, with and without something kept: nothing is left, the least, half and both beside it, and the most.
func TestAtTheHalf(t *testing.T) {
	for n := 1; n <= 384; n++ {
		half, full := bigPower(uint(n-1)), bigPower(uint(n))
		one := big.NewInt(1)
		lefts := []*big.Int{new(big.Int), one, new(big.Int).Sub(half, one), half, new(big.Int).Add(half, one), new(big.Int).Sub(full, one)}
		for _, rest := range lefts {
			if rest.Cmp(full) >= 0 {
				continue
			}
			for kept := range int64(4) {
				x := new(big.Int).Add(new(big.Int).Mul(big.NewInt(kept), full), rest)
				if x.BitLen() > 384 {
					continue
				}
				checkRight(t, fromBig(x), n)
				checkAlign(t, fromBig(x), n)
				checkCut(t, fromBig(x), n)
			}
		}
	}
}

// TestOneBit: P4.1 and P4.2; each bit alone, by each count about its place.
func TestOneBit(t *testing.T) {
	for i := range 384 {
		a := fromBig(bigPower(uint(i)))
		for n := max(i-2, 0); n <= i+3; n++ {
			checkRight(t, a, n)
			checkAlign(t, a, n)
			checkCut(t, a, n)
		}
	}
}

// TestRightExamples: P4.1, as the chapter has it, and the edges beside it.
func TestRightExamples(t *testing.T) {
	rows := []struct {
		what  string
		a     api.Wide
		n     int
		right api.Wide
		align api.Wide
		more  bool
	}{
		{"8, 2", wide.Of(8), 2, wide.Of(2), wide.Of(2), false},
		{"9, 2", wide.Of(9), 2, wide.Of(3), wide.Of(2), true},
		{"1, 400", wide.Of(1), 400, wide.Of(1), zero, true},
		{"0, 400", zero, 400, zero, zero, false},
		{"0, 0", zero, 0, zero, zero, false},
		{"6, 0", wide.Of(6), 0, wide.Of(6), wide.Of(6), false},
		{"6, -1", wide.Of(6), -1, wide.Of(6), wide.Of(6), false},
		{"13, 2, already odd", wide.Of(13), 2, wide.Of(3), wide.Of(3), true},
		{"2^64, 64", api.Wide{0, 1}, 64, wide.Of(1), wide.Of(1), false},
		{"2^64 + 1, 64", api.Wide{1, 1}, 64, wide.Of(1), wide.Of(1), true},
		{"2^65 + 1, 64", api.Wide{1, 2}, 64, wide.Of(3), wide.Of(2), true},
		{"2^383, 383", top, 383, wide.Of(1), wide.Of(1), false},
		{"2^383, 384", top, 384, wide.Of(1), zero, true},
		{"2^384 - 1, 383", all, 383, wide.Of(1), wide.Of(1), true},
		{"2^384 - 1, 384", all, 384, wide.Of(1), zero, true},
		{"2^384 - 1, 385", all, 385, wide.Of(1), zero, true},
		{"2^384 - 1, the least count", all, math.MinInt, all, all, false},
		{"2^384 - 1, the greatest count", all, math.MaxInt, wide.Of(1), zero, true},
	}
	for _, x := range rows {
		if got := Right(x.a, x.n); got != x.right {
			t.Errorf("Right(%s): %v", x.what, got)
		}
		if b, more := Align(x.a, x.n); b != x.align || more != x.more {
			t.Errorf("Align(%s): %v, %v", x.what, b, more)
		}
	}
}

// TestCutExamples: P4.2, as the chapter has it, and the edges beside it: by 384 half is 2^383, by 385 all is below it.
func TestCutExamples(t *testing.T) {
	rows := []struct {
		what  string
		a     api.Wide
		n     int
		kept  api.Wide
		half  int
		exact bool
	}{
		{"6, 2", wide.Of(6), 2, wide.Of(1), 0, false},
		{"5, 2", wide.Of(5), 2, wide.Of(1), -1, false},
		{"7, 2", wide.Of(7), 2, wide.Of(1), 1, false},
		{"4, 2", wide.Of(4), 2, wide.Of(1), -1, true},
		{"3, 0", wide.Of(3), 0, wide.Of(3), -1, true},
		{"3, -7", wide.Of(3), -7, wide.Of(3), -1, true},
		{"3, 1", wide.Of(3), 1, wide.Of(1), 0, false},
		{"2, 1", wide.Of(2), 1, wide.Of(1), -1, true},
		{"0, 0", zero, 0, zero, -1, true},
		{"0, 1", zero, 1, zero, -1, true},
		{"0, 384", zero, 384, zero, -1, true},
		{"0, 385", zero, 385, zero, -1, true},
		{"2^383, 383", top, 383, wide.Of(1), -1, true},
		{"2^383, 384", top, 384, zero, 0, false},
		{"2^383 + 1, 384", api.Wide{1, 0, 0, 0, 0, 1 << 63}, 384, zero, 1, false},
		{"2^383 - 1, 384", api.Wide{ones, ones, ones, ones, ones, 1<<63 - 1}, 384, zero, -1, false},
		{"2^383, 385", top, 385, zero, -1, false},
		{"2^384 - 1, 383", all, 383, wide.Of(1), 1, false},
		{"2^384 - 1, 384", all, 384, zero, 1, false},
		{"2^384 - 1, 385", all, 385, zero, -1, false},
		{"2^384 - 1, 386", all, 386, zero, -1, false},
		{"1, the greatest count", wide.Of(1), math.MaxInt, zero, -1, false},
		{"2^384 - 1, the least count", all, math.MinInt, all, -1, true},
	}
	for _, x := range rows {
		if kept, half, exact := Cut(x.a, x.n); kept != x.kept || half != x.half || exact != x.exact {
			t.Errorf("Cut(%s): %v, %d, %v", x.what, kept, half, exact)
		}
	}
}

func checkTop(t *testing.T, a api.Wide, place int) {
	t.Helper()
	x := num(a)
	by := place - (x.BitLen() - 1)
	want := zero
	if by >= 0 {
		want = fromBig(new(big.Int).Lsh(x, uint(by)))
	} else {
		want = jammed(parts(a, -by))
	}
	if b, moved, e := Top(a, place); b != want || moved != by || e != api.OK {
		t.Fatalf("Top(%v, %d): %v, %d, %v; wanted %v, %d", a, place, b, moved, e, want, by)
	}
}

// TestTop: P4.3, held against math/big at all places.
func TestTop(t *testing.T) {
	for place := range 384 {
		for _, a := range samples() {
			if a != zero {
				checkTop(t, a, place)
			}
		}
		for i := range uint(384) {
			checkTop(t, fromBig(bigPower(i)), place)
		}
	}
}

// TestTopExamples: P4.3, as the chapter has it, and the edges beside it.
func TestTopExamples(t *testing.T) {
	rows := []struct {
		what  string
		a     api.Wide
		place int
		b     api.Wide
		moved int
		e     api.Errno
	}{
		{"Top(5, 4)", wide.Of(5), 4, wide.Of(20), 2, api.OK},
		{"Top(5, 1)", wide.Of(5), 1, wide.Of(3), -1, api.OK},
		{"Top(0, 4)", zero, 4, zero, 0, api.ErrArg},
		{"Top(5, 384)", wide.Of(5), 384, zero, 0, api.ErrArg},
		{"Top(5, -1)", wide.Of(5), -1, zero, 0, api.ErrArg},
		{"Top(5, 2), where it stands", wide.Of(5), 2, wide.Of(5), 0, api.OK},
		{"Top(4, 1), nothing is left", wide.Of(4), 1, wide.Of(2), -1, api.OK},
		{"Top(5, 0)", wide.Of(5), 0, wide.Of(1), -2, api.OK},
		{"Top(1, 0)", wide.Of(1), 0, wide.Of(1), 0, api.OK},
		{"Top(1, 383)", wide.Of(1), 383, top, 383, api.OK},
		{"Top(2^383, 0)", top, 0, wide.Of(1), -383, api.OK},
		{"Top(2^383, 1)", top, 1, wide.Of(2), -382, api.OK},
		{"Top(2^383 + 1, 1)", api.Wide{1, 0, 0, 0, 0, 1 << 63}, 1, wide.Of(3), -382, api.OK},
		{"Top(2^384 - 1, 383)", all, 383, all, 0, api.OK},
		{"Top(2^384 - 1, 63)", all, 63, wide.Of(ones), -320, api.OK},
	}
	for _, x := range rows {
		if b, moved, e := Top(x.a, x.place); b != x.b || moved != x.moved || e != x.e {
			t.Errorf("%s: %v, %d, %v", x.what, b, moved, e)
		}
	}
}

// TestTopWrong: P4.3 and P0.1; no place is brought within a Wide as a count is, and zero values stand beside the error.
func TestTopWrong(t *testing.T) {
	for _, place := range append([]int{384, 385}, farCounts...) {
		for _, a := range samples() {
			if b, moved, e := Top(a, place); b != zero || moved != 0 || e != api.ErrArg {
				t.Errorf("Top(%v, %d): %v, %d, %v", a, place, b, moved, e)
			}
		}
	}
	for place := range 384 {
		if b, moved, e := Top(zero, place); b != zero || moved != 0 || e != api.ErrArg {
			t.Errorf("Top(0, %d): %v, %d, %v", place, b, moved, e)
		}
	}
}

// TestRightTwice: P4.4; by n and then by k is by both.
func TestRightTwice(t *testing.T) {
	for _, n := range fewCounts() {
		for _, k := range fewCounts() {
			both := int(meant(n) + meant(k))
			for _, a := range samples() {
				if twice, once := Right(Right(a, n), k), Right(a, both); twice != once {
					t.Fatalf("Right of %v by %d and %d: %v; by both %v", a, n, k, twice, once)
				}
			}
		}
	}
}

// TestRightEven: P4.4; even just if nothing was left and the whole part is even.
func TestRightEven(t *testing.T) {
	for _, n := range counts() {
		for _, a := range samples() {
			whole, rest := parts(a, n)
			want := rest.Sign() == 0 && whole.Bit(0) == 0
			if even := !wide.Bit(Right(a, n), 0); even != want {
				t.Fatalf("Right(%v, %d) is even: %v; wanted %v", a, n, even, want)
			}
		}
	}
}

// TestCutBack: P4.4; kept times 2^n, and what is left, is a, and so nothing that is half or more is exact.
func TestCutBack(t *testing.T) {
	for _, n := range counts() {
		for _, a := range samples() {
			kept, half, exact := Cut(a, n)
			back, lost := wide.Left(kept, int(meant(n)))
			rest, under := wide.Sub(a, back)
			if lost || under || num(rest).Cmp(bigPower(meant(n))) >= 0 || exact != (rest == zero) || half != halfOf(num(rest), n) {
				t.Fatalf("Cut(%v, %d): %v, %d, %v; back is %v", a, n, kept, half, exact, back)
			}
			if half >= 0 && exact {
				t.Fatalf("Cut(%v, %d): %d, and yet exact", a, n, half)
			}
		}
	}
}

// TestTopBack: P4.4; what was moved to the left is moved back with nothing lost.
func TestTopBack(t *testing.T) {
	for place := range 384 {
		for _, a := range samples() {
			b, moved, e := Top(a, place)
			if e != api.OK {
				continue
			}
			if wide.Len(b) != place+1 {
				t.Fatalf("Top(%v, %d): %v, whose highest bit stands elsewhere", a, place, b)
			}
			if back, lost := wide.Right(b, moved); moved >= 0 && (back != a || lost) {
				t.Fatalf("Top(%v, %d): %v, %d; back is %v", a, place, b, moved, back)
			}
		}
	}
}

// answers is what all calls answer at one set of arguments.
type answers struct {
	wides       [4]api.Wide
	half, moved int
	exact, more bool
	e           api.Errno
}

func ask(a api.Wide, n int) answers {
	var x answers
	x.wides[0] = Right(a, n)
	x.wides[1], x.half, x.exact = Cut(a, n)
	x.wides[2], x.moved, x.e = Top(a, n)
	x.wides[3], x.more = Align(a, n)
	return x
}

// TestArgumentsAlone: P0.1; no argument makes a call panic, what was asked between does not change an answer, and no argument is another behind a call.
func TestArgumentsAlone(t *testing.T) {
	list, ns := samples(), counts()
	for i, a := range list {
		other, before := list[(i*7+3)%len(list)], a
		for j, n := range ns {
			first := ask(a, n)
			ask(other, ns[(j*5+2)%len(ns)])
			if again := ask(a, n); again != first {
				t.Fatalf("at %v, %d: %v, then %v", a, n, first, again)
			}
		}
		if a != before {
			t.Fatalf("%v became %v", before, a)
		}
	}
}
