package word

import (
	"math"
	"math/big"
	"testing"

	"abacus/api"
)

const top = math.MaxUint64

// edges are the words where carries, borrows and halves turn over.
var edges = []uint64{
	0, 1, 2, 3, 4, 5, 7, 8, 9, 10, 15, 16, 17, 127, 128, 255, 256,
	1<<31 - 1, 1 << 31, 1<<31 + 1, 1<<32 - 2, 1<<32 - 1, 1 << 32, 1<<32 + 1,
	1<<33 - 2, 1<<62 - 1, 1 << 62, 1<<63 - 2, 1<<63 - 1, 1 << 63, 1<<63 + 1,
	0x5555555555555555, 0xaaaaaaaaaaaaaaaa, 0x00000000ffffffff, 0xffffffff00000000,
	0x0123456789abcdef, 0xfedcba9876543210, top - 2, top - 1, top,
}

// wildCounts are counts outside a word, some of which would be harmless if only their low bits were looked at.
var wildCounts = []int{
	math.MinInt, math.MinInt + 1, math.MinInt32, -256, -128, -65, -64, -63, -2, -1,
	65, 66, 127, 128, 129, 255, 256, 257, 1 << 16, 1 << 32, 1<<32 + 1, math.MaxInt32, math.MaxInt - 1, math.MaxInt,
}

// some tells n words that are spread out, always the same ones.
func some(n int) []uint64 {
	out := make([]uint64, 0, n)
	seed := uint64(0x9e3779b97f4a7c15)
	for i := range n {
		seed ^= seed << 13
		seed ^= seed >> 7
		seed ^= seed << 17
		// Every other one is short, so that small numbers meet great ones.
		out = append(out, seed>>(uint(i%2)*uint(seed%64)))
	}
	return out
}

func samples() []uint64 {
	out := append([]uint64{}, edges...)
	for i := range 64 {
		out = append(out, 1<<uint(i), 1<<uint(i)-1, top<<uint(i))
	}
	return append(out, some(200)...)
}

func fewSamples() []uint64 {
	return append(append([]uint64{}, edges...), some(40)...)
}

func counts() []int {
	out := append([]int{}, wildCounts...)
	for n := range 65 {
		out = append(out, n)
	}
	return out
}

// bound is the chapter's section 'Words', said once more.
func bound(n int) int {
	if n < 0 {
		return 0
	}
	if n > 64 {
		return 64
	}
	return n
}

func num(x uint64) *big.Int { return new(big.Int).SetUint64(x) }

func two(hi, lo uint64) *big.Int {
	n := num(hi)
	n.Lsh(n, 64)
	return n.Add(n, num(lo))
}

func power(n int) *big.Int { return new(big.Int).Lsh(big.NewInt(1), uint(n)) }

func carryOf(b bool) *big.Int {
	if b {
		return big.NewInt(1)
	}
	return big.NewInt(0)
}

// modulo tells n within a word: Mod of a number below 0 goes up.
func modulo(n *big.Int) uint64 { return new(big.Int).Mod(n, power(64)).Uint64() }

// TestAdd: P1.1.
func TestAdd(t *testing.T) {
	for _, a := range samples() {
		for _, b := range samples() {
			for _, carry := range []bool{false, true} {
				n := new(big.Int).Add(num(a), num(b))
				n.Add(n, carryOf(carry))
				sum, over := Add(a, b, carry)
				if sum != modulo(n) || over != (n.Cmp(power(64)) >= 0) {
					t.Fatalf("Add(%#x, %#x, %v): %#x, %v; the sum is %v", a, b, carry, sum, over, n)
				}
			}
		}
	}
}

// TestSub: P1.1.
func TestSub(t *testing.T) {
	for _, a := range samples() {
		for _, b := range samples() {
			for _, borrow := range []bool{false, true} {
				n := new(big.Int).Sub(num(a), num(b))
				n.Sub(n, carryOf(borrow))
				diff, under := Sub(a, b, borrow)
				if diff != modulo(n) || under != (n.Sign() < 0) {
					t.Fatalf("Sub(%#x, %#x, %v): %#x, %v; the difference is %v", a, b, borrow, diff, under, n)
				}
			}
		}
	}
}

// TestCarryEdges: P1.1, where it turns over.
func TestCarryEdges(t *testing.T) {
	sums := []struct {
		a, b  uint64
		carry bool
		sum   uint64
		over  bool
	}{
		{0, 0, false, 0, false},
		{0, 0, true, 1, false},
		{top, 0, false, top, false},
		{top, 0, true, 0, true},
		{0, top, true, 0, true},
		{top, 1, false, 0, true},
		{top, 1, true, 1, true},
		{top, top, false, top - 1, true},
		{top, top, true, top, true},
		{1 << 63, 1 << 63, false, 0, true},
		{1 << 63, 1<<63 - 1, false, top, false},
		{1 << 63, 1<<63 - 1, true, 0, true},
	}
	for _, x := range sums {
		if sum, over := Add(x.a, x.b, x.carry); sum != x.sum || over != x.over {
			t.Errorf("Add(%#x, %#x, %v): %#x, %v", x.a, x.b, x.carry, sum, over)
		}
	}
	diffs := []struct {
		a, b   uint64
		borrow bool
		diff   uint64
		under  bool
	}{
		{0, 0, false, 0, false},
		{0, 0, true, top, true},
		{0, 1, false, top, true},
		{0, top, false, 1, true},
		{0, top, true, 0, true},
		{top, top, false, 0, false},
		{top, top, true, top, true},
		{top, 0, true, top - 1, false},
		{1, 0, true, 0, false},
		{1 << 63, 1<<63 - 1, true, 0, false},
	}
	for _, x := range diffs {
		if diff, under := Sub(x.a, x.b, x.borrow); diff != x.diff || under != x.under {
			t.Errorf("Sub(%#x, %#x, %v): %#x, %v", x.a, x.b, x.borrow, diff, under)
		}
	}
}

// TestMul: P1.2.
func TestMul(t *testing.T) {
	for _, a := range samples() {
		for _, b := range samples() {
			n := new(big.Int).Mul(num(a), num(b))
			if hi, lo := Mul(a, b); two(hi, lo).Cmp(n) != 0 {
				t.Fatalf("Mul(%#x, %#x): %#x, %#x; the product is %v", a, b, hi, lo, n)
			}
		}
	}
	if hi, lo := Mul(1<<63, 4); hi != 2 || lo != 0 {
		t.Errorf("Mul(2^63, 4): %d, %d", hi, lo)
	}
	if hi, lo := Mul(top, top); hi != top-1 || lo != 1 {
		t.Errorf("Mul(2^64 - 1, 2^64 - 1): %#x, %#x", hi, lo)
	}
}

func checkDiv(t *testing.T, hi, lo, by uint64) {
	quo, rest, e := Div(hi, lo, by)
	if hi >= by {
		if quo != 0 || rest != 0 || e != api.ErrArg {
			t.Fatalf("Div(%#x, %#x, %#x): %#x, %#x, %v; wanted 0, 0, ErrArg", hi, lo, by, quo, rest, e)
		}
		return
	}
	q, r := new(big.Int).QuoRem(two(hi, lo), num(by), new(big.Int))
	if e != api.OK || num(quo).Cmp(q) != 0 || num(rest).Cmp(r) != 0 {
		t.Fatalf("Div(%#x, %#x, %#x): %#x, %#x, %v; wanted %v, %v", hi, lo, by, quo, rest, e, q, r)
	}
}

// TestDiv: P1.2; the upper word below the divisor, as great, and above it, a divisor of 0 among them.
func TestDiv(t *testing.T) {
	for _, by := range fewSamples() {
		for _, lo := range fewSamples() {
			for _, hi := range fewSamples() {
				checkDiv(t, hi, lo, by)
			}
			checkDiv(t, by-1, lo, by)
			checkDiv(t, by, lo, by)
			checkDiv(t, by+1, lo, by)
		}
	}
}

// TestDivExamples: P1.2, as the chapter has it.
func TestDivExamples(t *testing.T) {
	rows := []struct {
		hi, lo, by, quo, rest uint64
		e                     api.Errno
	}{
		{1, 0, 2, 1 << 63, 0, api.OK},
		{2, 0, 2, 0, 0, api.ErrArg},
		{0, 5, 0, 0, 0, api.ErrArg},
		{0, 0, 0, 0, 0, api.ErrArg},
		{top, top, 0, 0, 0, api.ErrArg},
		{top, top, top, 0, 0, api.ErrArg},
		{top - 1, top, top, top, top - 1, api.OK},
		{0, 17, 5, 3, 2, api.OK},
		{0, top, 1, top, 0, api.OK},
	}
	for _, x := range rows {
		if quo, rest, e := Div(x.hi, x.lo, x.by); quo != x.quo || rest != x.rest || e != x.e {
			t.Errorf("Div(%#x, %#x, %#x): %#x, %#x, %v", x.hi, x.lo, x.by, quo, rest, e)
		}
	}
}

// TestBits: P1.3, held against a walk over all places.
func TestBits(t *testing.T) {
	for _, x := range samples() {
		length, low, ones := 0, 64, 0
		for i := 63; i >= 0; i-- {
			if x/power(i).Uint64()%2 == 1 {
				length = max(length, i+1)
				low = i
				ones++
			}
		}
		if Len(x) != length || Low(x) != low || Ones(x) != ones {
			t.Errorf("Len, Low, Ones of %#x: %d, %d, %d; wanted %d, %d, %d", x, Len(x), Low(x), Ones(x), length, low, ones)
		}
	}
	if Len(0) != 0 || Len(8) != 4 || Len(top) != 64 {
		t.Errorf("Len of 0, 8, 2^64 - 1: %d, %d, %d", Len(0), Len(8), Len(top))
	}
	if Low(0) != 64 || Low(8) != 3 || Low(1<<63) != 63 {
		t.Errorf("Low of 0, 8, 2^63: %d, %d, %d", Low(0), Low(8), Low(1<<63))
	}
	if Ones(0) != 0 || Ones(7) != 3 || Ones(top) != 64 {
		t.Errorf("Ones of 0, 7, 2^64 - 1: %d, %d, %d", Ones(0), Ones(7), Ones(top))
	}
}

// TestShifts: P1.4, Left, Right and Mask at all counts.
func TestShifts(t *testing.T) {
	for _, n := range counts() {
		by := power(bound(n))
		for _, x := range samples() {
			if got, want := Left(x, n), modulo(new(big.Int).Mul(num(x), by)); got != want {
				t.Fatalf("Left(%#x, %d): %#x, wanted %#x", x, n, got, want)
			}
			if got, want := Right(x, n), new(big.Int).Quo(num(x), by).Uint64(); got != want {
				t.Fatalf("Right(%#x, %d): %#x, wanted %#x", x, n, got, want)
			}
		}
		if got, want := Mask(n), new(big.Int).Sub(by, big.NewInt(1)).Uint64(); got != want {
			t.Fatalf("Mask(%d): %#x, wanted %#x", n, got, want)
		}
	}
}

// TestField: P1.4, both counts from below 0 to above 64.
func TestField(t *testing.T) {
	for _, low := range counts() {
		for _, n := range counts() {
			for _, x := range fewSamples() {
				r := new(big.Int).Quo(num(x), power(bound(low)))
				want := r.Mod(r, power(bound(n))).Uint64()
				if got := Field(x, low, n); got != want {
					t.Fatalf("Field(%#x, %d, %d): %#x, wanted %#x", x, low, n, got, want)
				}
			}
		}
	}
}

// TestExtend: P1.4; n below 1 counts as 1, above 64 as 64.
func TestExtend(t *testing.T) {
	for _, n := range counts() {
		m := max(bound(n), 1)
		for _, x := range samples() {
			r := new(big.Int).Mod(num(x), power(m))
			if r.Cmp(power(m-1)) >= 0 {
				r.Sub(r, power(m))
			}
			if got, want := Extend(x, n), modulo(r); got != want {
				t.Fatalf("Extend(%#x, %d): %#x, wanted %#x", x, n, got, want)
			}
		}
	}
}

// TestFieldExamples: P1.4, as the chapter has it, and beside it.
func TestFieldExamples(t *testing.T) {
	rows := []struct {
		what      string
		got, want uint64
	}{
		{"Left(1, 64)", Left(1, 64), 0},
		{"Left(1, 63)", Left(1, 63), 1 << 63},
		{"Left(5, -1)", Left(5, -1), 5},
		{"Right(8, -1)", Right(8, -1), 8},
		{"Right(2^64 - 1, 65)", Right(top, 65), 0},
		{"Mask(65)", Mask(65), top},
		{"Mask(64)", Mask(64), top},
		{"Mask(0)", Mask(0), 0},
		{"Mask(-1)", Mask(-1), 0},
		{"Field(0xabcd, 4, 8)", Field(0xabcd, 4, 8), 0xbc},
		{"Field(0xabcd, -4, 8)", Field(0xabcd, -4, 8), 0xcd},
		{"Field(0xabcd, 4, 100)", Field(0xabcd, 4, 100), 0xabc},
		{"Field(2^64 - 1, 64, 64)", Field(top, 64, 64), 0},
		{"Extend(0x80, 8)", Extend(0x80, 8), 0xffffffffffffff80},
		{"Extend(0x7f, 8)", Extend(0x7f, 8), 0x7f},
		{"Extend(0xff7f, 8)", Extend(0xff7f, 8), 0x7f},
		{"Extend(1, 0)", Extend(1, 0), top},
		{"Extend(2, -7)", Extend(2, -7), 0},
		{"Extend(2^63, 65)", Extend(1<<63, 65), 1 << 63},
	}
	for _, x := range rows {
		if x.got != x.want {
			t.Errorf("%s: %#x, wanted %#x", x.what, x.got, x.want)
		}
	}
}

// TestSqrt: P1.5; squares, and what stands beside them.
func TestSqrt(t *testing.T) {
	xs := samples()
	for _, x := range samples() {
		square := (x >> 32) * (x >> 32)
		xs = append(xs, square-1, square, square+1, x%(1<<32)*(x%(1<<32)))
	}
	for x := range uint64(2000) {
		xs = append(xs, x)
	}
	for _, x := range xs {
		want := new(big.Int).Sqrt(num(x))
		left := new(big.Int).Sub(num(x), new(big.Int).Mul(want, want))
		if root, rest := Sqrt(x); num(root).Cmp(want) != 0 || num(rest).Cmp(left) != 0 {
			t.Fatalf("Sqrt(%#x): %#x, %#x; wanted %v, %v", x, root, rest, want, left)
		}
	}
	if root, rest := Sqrt(15); root != 3 || rest != 6 {
		t.Errorf("Sqrt(15): %d, %d", root, rest)
	}
	if root, rest := Sqrt(top); root != 1<<32-1 || rest != 1<<33-2 {
		t.Errorf("Sqrt(2^64 - 1): %d, %d", root, rest)
	}
	if root, rest := Sqrt(0); root != 0 || rest != 0 {
		t.Errorf("Sqrt(0): %d, %d", root, rest)
	}
}

// TestSubTakesBack: P1.6, sums.
func TestSubTakesBack(t *testing.T) {
	for _, a := range samples() {
		for _, b := range samples() {
			for _, carry := range []bool{false, true} {
				sum, over := Add(a, b, carry)
				if diff, under := Sub(sum, b, carry); diff != a || under != over {
					t.Fatalf("Add(%#x, %#x, %v) is %#x, %v; back: %#x, %v", a, b, carry, sum, over, diff, under)
				}
			}
		}
	}
}

// TestQuotientMakesNumber: P1.6, quotients; and what is left is below the divisor.
func TestQuotientMakesNumber(t *testing.T) {
	for _, hi := range fewSamples() {
		for _, lo := range fewSamples() {
			for _, by := range fewSamples() {
				quo, rest, e := Div(hi, lo, by)
				if e != api.OK {
					continue
				}
				high, low := Mul(quo, by)
				low, over := Add(low, rest, false)
				high, lost := Add(high, 0, over)
				if high != hi || low != lo || lost || rest >= by {
					t.Fatalf("Div(%#x, %#x, %#x): %#x, %#x make %#x, %#x", hi, lo, by, quo, rest, high, low)
				}
			}
		}
	}
}

// TestLeftAndRight: P1.6, shifts there and back of what has at most 64 - n bits.
func TestLeftAndRight(t *testing.T) {
	for _, n := range counts() {
		for _, x := range samples() {
			x = Field(x, 0, 64-bound(n))
			if got := Right(Left(x, n), n); got != x {
				t.Fatalf("Right(Left(%#x, %d), %d): %#x", x, n, n, got)
			}
		}
	}
}

// TestExtendTwice: P1.6.
func TestExtendTwice(t *testing.T) {
	for _, x := range samples() {
		for _, n := range counts() {
			once := Extend(x, n)
			if twice := Extend(once, n); twice != once {
				t.Fatalf("Extend(%#x, %d): %#x, again: %#x", x, n, once, twice)
			}
		}
		if got := Extend(x, 64); got != x {
			t.Fatalf("Extend(%#x, 64): %#x", x, got)
		}
	}
}

// answers is what all calls answer at one set of arguments.
type answers struct {
	words [13]uint64
	bools [2]bool
	ints  [3]int
	e     api.Errno
}

func ask(a, b, c uint64, n, m int) answers {
	var x answers
	x.words[0], x.bools[0] = Add(a, b, c%2 == 1)
	x.words[1], x.bools[1] = Sub(a, b, c%2 == 1)
	x.words[2], x.words[3] = Mul(a, b)
	x.words[4], x.words[5], x.e = Div(a, b, c)
	x.ints = [3]int{Len(a), Low(a), Ones(a)}
	x.words[6], x.words[7], x.words[8] = Left(a, n), Right(a, n), Mask(n)
	x.words[9], x.words[10] = Field(a, m, n), Extend(a, n)
	x.words[11], x.words[12] = Sqrt(a)
	return x
}

// TestArgumentsAlone: P0.1; no argument makes a call panic, and what was asked between does not change an answer.
func TestArgumentsAlone(t *testing.T) {
	ns := append([]int{0, 1, 31, 32, 33, 63, 64}, wildCounts...)
	for i, a := range edges {
		b, c := edges[(i*7+3)%len(edges)], edges[(i*11+5)%len(edges)]
		for j, n := range ns {
			m := ns[(j*5+2)%len(ns)]
			first := ask(a, b, c, n, m)
			ask(c, a, b, m, n)
			if again := ask(a, b, c, n, m); again != first {
				t.Fatalf("at %#x, %#x, %#x, %d, %d: %v, then %v", a, b, c, n, m, first, again)
			}
		}
	}
}
