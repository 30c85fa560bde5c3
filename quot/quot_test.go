package quot

import (
	"math"
	"math/big"
	"testing"

	"abacus/api"
	"abacus/wide"
)

const ones = math.MaxUint64

var (
	zero = api.Wide{}
	// all is 2^384 - 1, allRoot the whole root of that, top 2^383.
	all     = api.Wide{ones, ones, ones, ones, ones, ones}
	allRoot = api.Wide{ones, ones, ones}
	top     = api.Wide{0, 0, 0, 0, 0, 1 << 63}
)

// wrongCounts are no counts of digits; some would be harmless if only their low bits were looked at.
var wrongCounts = []int{
	math.MinInt, math.MinInt + 1, math.MinInt32, -1 << 32, -512, -385, -384, -64, -2, -1,
	385, 386, 448, 512, 768, 1 << 16, 1 << 32, 1<<32 + 1, math.MaxInt32, math.MaxInt - 1, math.MaxInt,
}

// fewCounts are the counts of digits at which words begin and end.
func fewCounts() []int {
	var out []int
	for n := 0; n <= 384; n += 64 {
		out = append(out, max(n-1, 0), n, min(n+1, 384), min(n+29, 384))
	}
	return out
}

func edges() []api.Wide {
	return []api.Wide{
		zero, {1}, {2}, {3}, {4}, {5}, {7}, {99}, {ones}, {ones - 1}, {1 << 63}, {1<<63 + 1}, {1<<63 - 1}, {1 << 32}, {1<<32 - 1},
		{0, 1}, {ones, 1}, {0, ones}, {ones, ones}, {1, ones}, {0, 0, 1}, {1, 0, 1}, {ones, ones, 1}, {ones - 1, ones, ones},
		allRoot, {0, 0, 0, 1}, {1, 0, 0, 1}, {1, 0, 0, 0, 0, 1}, {0, 0, 0, 0, 0, 1}, top, {1, 0, 0, 0, 0, 1 << 63}, {0, 0, 0, 0, 0, 1 << 62},
		{ones, ones, ones, ones, ones, 1<<63 - 1}, {0, ones, ones, ones, ones, ones}, {ones - 1, ones, ones, ones, ones, ones},
		{ones, 0, ones, 0, ones, 0}, {0, ones, 0, ones, 0, ones}, {ones, ones, ones, ones, ones}, {0, 0, 0, ones, ones, ones},
		{0x0123456789abcdef, 0xfedcba9876543210, 1, 0, 0xdeadbeef, 0x8000000000000001}, all,
	}
}

// some tells n numbers of all lengths, always the same ones.
func some(n int) []api.Wide {
	out := make([]api.Wide, 0, n)
	seed := uint64(0x2545f4914f6cdd1d)
	for range n {
		var w api.Wide
		for i := range w {
			seed ^= seed << 13
			seed ^= seed >> 7
			seed ^= seed << 17
			w[i] = seed
		}
		out = append(out, fromBig(new(big.Int).Rsh(num(w), uint(seed%384))))
	}
	return out
}

func samples() []api.Wide {
	out := append(edges(), some(80)...)
	for i := range uint(384) {
		p := bigPower(i)
		out = append(out, fromBig(p), fromBig(new(big.Int).Sub(p, big.NewInt(1))))
	}
	return out
}

func fewSamples() []api.Wide {
	return append(edges(), some(24)...)
}

func bigPower(n uint) *big.Int { return new(big.Int).Lsh(big.NewInt(1), n) }

// num is what a Wide is worth, by the words of package api: the lowest first.
func num(w api.Wide) *big.Int {
	n := new(big.Int)
	for i := 5; i >= 0; i-- {
		n.Lsh(n, 64)
		n.Add(n, new(big.Int).SetUint64(w[i]))
	}
	return n
}

// fromBig asks n to be from 0 to 2^384 - 1.
func fromBig(n *big.Int) api.Wide {
	var w api.Wide
	r := new(big.Int).Set(n)
	for i := range w {
		w[i] = new(big.Int).Mod(r, bigPower(64)).Uint64()
		r.Rsh(r, 64)
	}
	return w
}

func checkDiv(t *testing.T, a, b api.Wide) {
	t.Helper()
	q, r := new(big.Int).QuoRem(num(a), num(b), new(big.Int))
	if quo, rest, e := Div(a, b); quo != fromBig(q) || rest != fromBig(r) || e != api.OK {
		t.Fatalf("Div(%v, %v): %v, %v, %v; wanted %v, %v", a, b, quo, rest, e, q, r)
	}
}

// TestDiv: P3.1, held against math/big.
func TestDiv(t *testing.T) {
	for _, a := range samples() {
		for _, b := range fewSamples() {
			if b != zero {
				checkDiv(t, a, b)
			}
			if a != zero {
				checkDiv(t, b, a)
			}
		}
	}
}

// TestDivPowers: P3.1; each place of the quotient's one bit, and of what is left.
func TestDivPowers(t *testing.T) {
	for i := range 384 {
		for j := 0; j < 384; j += 5 {
			quo, rest, e := Div(fromBig(bigPower(uint(i))), fromBig(bigPower(uint(j))))
			want, left := zero, fromBig(bigPower(uint(i)))
			if i >= j {
				want, left = fromBig(bigPower(uint(i-j))), zero
			}
			if quo != want || rest != left || e != api.OK {
				t.Fatalf("Div(2^%d, 2^%d): %v, %v, %v", i, j, quo, rest, e)
			}
		}
	}
}

// TestDivExamples: P3.1, as the chapter has it, and the edges beside it.
func TestDivExamples(t *testing.T) {
	third := fromBig(new(big.Int).Div(new(big.Int).Sub(bigPower(383), big.NewInt(2)), big.NewInt(3)))
	below := api.Wide{ones - 1, ones, ones, ones, ones, ones}
	rows := []struct {
		what            string
		a, b, quo, rest api.Wide
	}{
		{"Div(7, 2)", wide.Of(7), wide.Of(2), wide.Of(3), wide.Of(1)},
		{"Div(2^383, 3)", top, wide.Of(3), third, wide.Of(2)},
		{"Div(0, 1)", zero, wide.Of(1), zero, zero},
		{"Div(0, 2^384 - 1)", zero, all, zero, zero},
		{"Div(2^384 - 1, 1)", all, wide.Of(1), all, zero},
		{"Div(2^384 - 1, it)", all, all, wide.Of(1), zero},
		{"Div(2^384 - 2, 2^384 - 1)", below, all, zero, below},
		{"Div(2^384 - 1, 2^384 - 2)", all, below, wide.Of(1), wide.Of(1)},
		{"Div(2^384 - 1, 2^383)", all, top, wide.Of(1), api.Wide{ones, ones, ones, ones, ones, 1<<63 - 1}},
		{"Div(2^383, 2^384 - 1)", top, all, zero, top},
		{"Div(2^384 - 1, 2^192 - 1)", all, allRoot, api.Wide{1, 0, 0, 1}, zero},
		{"Div(6, 7)", wide.Of(6), wide.Of(7), zero, wide.Of(6)},
		{"Div(4, 7), as long as each other", wide.Of(4), wide.Of(7), zero, wide.Of(4)},
	}
	for _, x := range rows {
		if quo, rest, e := Div(x.a, x.b); quo != x.quo || rest != x.rest || e != api.OK {
			t.Errorf("%s: %v, %v, %v", x.what, quo, rest, e)
		}
	}
}

// TestDivByZero: P3.1 and P0.1, zero values beside the error.
func TestDivByZero(t *testing.T) {
	for _, a := range samples() {
		if quo, rest, e := Div(a, zero); quo != zero || rest != zero || e != api.ErrArg {
			t.Errorf("Div(%v, 0): %v, %v, %v", a, quo, rest, e)
		}
	}
}

func checkSqrt(t *testing.T, a api.Wide) {
	t.Helper()
	r := new(big.Int).Sqrt(num(a))
	left := new(big.Int).Sub(num(a), new(big.Int).Mul(r, r))
	if root, rest := Sqrt(a); root != fromBig(r) || rest != fromBig(left) {
		t.Fatalf("Sqrt(%v): %v, %v; wanted %v, %v", a, root, rest, r, left)
	}
}

// TestSqrt: P3.1, held against math/big.
func TestSqrt(t *testing.T) {
	for _, a := range samples() {
		checkSqrt(t, a)
	}
	for x := range uint64(5000) {
		checkSqrt(t, wide.Of(x))
		checkSqrt(t, wide.Not(wide.Of(x)))
	}
}

// TestSqrtOfSquares: P3.1; a square, the last number with that root, and the one below the square, whose root is less by 1.
func TestSqrtOfSquares(t *testing.T) {
	for _, w := range append(samples(), allRoot) {
		if wide.Len(w) > 192 || w == zero {
			continue
		}
		square, _ := wide.Mul(w, w)
		if root, rest := Sqrt(square); root != w || rest != zero {
			t.Fatalf("Sqrt of %v squared: %v, %v", w, root, rest)
		}
		twice, _ := wide.Left(w, 1)
		last, _ := wide.Add(square, twice)
		if root, rest := Sqrt(last); root != w || rest != twice {
			t.Fatalf("Sqrt of %v squared, and twice it: %v, %v", w, root, rest)
		}
		below, _ := wide.Sub(square, wide.Of(1))
		less, _ := wide.Sub(w, wide.Of(1))
		left, _ := wide.Left(less, 1)
		if root, rest := Sqrt(below); root != less || rest != left {
			t.Fatalf("Sqrt of %v squared, less 1: %v, %v", w, root, rest)
		}
	}
}

// TestSqrtExamples: P3.1, as the chapter has it, and the edges beside it.
func TestSqrtExamples(t *testing.T) {
	rows := []struct {
		what          string
		a, root, rest api.Wide
	}{
		{"Sqrt(0)", zero, zero, zero},
		{"Sqrt(2^382)", api.Wide{0, 0, 0, 0, 0, 1 << 62}, api.Wide{0, 0, 1 << 63}, zero},
		{"Sqrt(99)", wide.Of(99), wide.Of(9), wide.Of(18)},
		{"Sqrt(1)", wide.Of(1), wide.Of(1), zero},
		{"Sqrt(2)", wide.Of(2), wide.Of(1), wide.Of(1)},
		{"Sqrt(3)", wide.Of(3), wide.Of(1), wide.Of(2)},
		{"Sqrt(4)", wide.Of(4), wide.Of(2), zero},
		{"Sqrt(100)", wide.Of(100), wide.Of(10), zero},
		{"Sqrt(2^128)", api.Wide{0, 0, 1}, api.Wide{0, 1}, zero},
		{"Sqrt(2^384 - 1)", all, allRoot, api.Wide{ones - 1, ones, ones, 1}},
	}
	for _, x := range rows {
		if root, rest := Sqrt(x.a); root != x.root || rest != x.rest {
			t.Errorf("%s: %v, %v", x.what, root, rest)
		}
	}
}

func checkDigits(t *testing.T, a, b api.Wide, n int) {
	t.Helper()
	quo, more, e := Digits(a, b, n)
	whole := new(big.Int).Lsh(num(a), uint(n))
	if whole.Cmp(bigPower(384)) >= 0 {
		if quo != zero || more || e != api.ErrLong {
			t.Fatalf("Digits(%v, %v, %d): %v, %v, %v; wanted ErrLong", a, b, n, quo, more, e)
		}
		return
	}
	q, r := new(big.Int).QuoRem(whole, num(b), new(big.Int))
	if quo != fromBig(q) || more != (r.Sign() != 0) || e != api.OK {
		t.Fatalf("Digits(%v, %v, %d): %v, %v, %v; wanted %v, %v", a, b, n, quo, more, e, q, r.Sign() != 0)
	}
}

// TestDigits: P3.2, held against math/big: by all counts, and for many numbers by a few.
func TestDigits(t *testing.T) {
	numbers := fewSamples()
	for n := range 385 {
		for i, a := range numbers {
			if b := numbers[(i*11+n)%len(numbers)]; b != zero {
				checkDigits(t, a, b, n)
			}
		}
	}
	for _, n := range fewCounts() {
		for i, a := range samples() {
			if b := numbers[(i+n)%len(numbers)]; b != zero {
				checkDigits(t, a, b, n)
			}
		}
	}
}

// TestDigitsLong: P3.2; the product is just 2^384, and half of that, at each count.
func TestDigitsLong(t *testing.T) {
	for n := 1; n <= 384; n++ {
		a := fromBig(bigPower(uint(384 - n)))
		for _, b := range []api.Wide{wide.Of(1), wide.Of(3), a, top, all} {
			if quo, more, e := Digits(a, b, n); quo != zero || more || e != api.ErrLong {
				t.Fatalf("Digits(2^%d, %v, %d): %v, %v, %v; wanted ErrLong", 384-n, b, n, quo, more, e)
			}
			checkDigits(t, a, b, n-1)
		}
		below, _ := wide.Sub(a, wide.Of(1))
		checkDigits(t, below, wide.Of(1), n)
		checkDigits(t, below, wide.Of(7), n)
	}
}

// TestDigitsExamples: P3.2, as the chapter has it, and the edges beside it.
func TestDigitsExamples(t *testing.T) {
	rows := []struct {
		what string
		a, b api.Wide
		n    int
		quo  api.Wide
		more bool
		e    api.Errno
	}{
		{"Digits(1, 3, 4)", wide.Of(1), wide.Of(3), 4, wide.Of(5), true, api.OK},
		{"Digits(1, 4, 4)", wide.Of(1), wide.Of(4), 4, wide.Of(4), false, api.OK},
		{"Digits(1, 0, 4)", wide.Of(1), zero, 4, zero, false, api.ErrArg},
		{"Digits(1, 3, 385)", wide.Of(1), wide.Of(3), 385, zero, false, api.ErrArg},
		{"Digits(2, 3, 383)", wide.Of(2), wide.Of(3), 383, zero, false, api.ErrLong},
		{"Digits(7, 2, 0)", wide.Of(7), wide.Of(2), 0, wide.Of(3), true, api.OK},
		{"Digits(1, 1, 383)", wide.Of(1), wide.Of(1), 383, top, false, api.OK},
		{"Digits(1, 1, 384)", wide.Of(1), wide.Of(1), 384, zero, false, api.ErrLong},
		{"Digits(0, 1, 384)", zero, wide.Of(1), 384, zero, false, api.OK},
		{"Digits(0, 2^384 - 1, 0)", zero, all, 0, zero, false, api.OK},
		{"Digits(1, 2^384 - 1, 0)", wide.Of(1), all, 0, zero, true, api.OK},
		{"Digits(1, 2^383, 383)", wide.Of(1), top, 383, wide.Of(1), false, api.OK},
		{"Digits(2^384 - 1, 1, 0)", all, wide.Of(1), 0, all, false, api.OK},
		{"Digits(2^384 - 1, it, 1)", all, all, 1, zero, false, api.ErrLong},
	}
	for _, x := range rows {
		if quo, more, e := Digits(x.a, x.b, x.n); quo != x.quo || more != x.more || e != x.e {
			t.Errorf("%s: %v, %v, %v", x.what, quo, more, e)
		}
	}
}

// TestDigitsWrong: P3.2 and P0.1; ErrArg comes ahead of ErrLong, and zero values stand beside it.
func TestDigitsWrong(t *testing.T) {
	for _, a := range fewSamples() {
		for n := range 385 {
			if quo, more, e := Digits(a, zero, n); quo != zero || more || e != api.ErrArg {
				t.Errorf("Digits(%v, 0, %d): %v, %v, %v", a, n, quo, more, e)
			}
		}
		for _, n := range wrongCounts {
			for _, b := range fewSamples() {
				if quo, more, e := Digits(a, b, n); quo != zero || more || e != api.ErrArg {
					t.Errorf("Digits(%v, %v, %d): %v, %v, %v", a, b, n, quo, more, e)
				}
			}
		}
	}
}

// TestQuotientsBack: P3.3; a quotient times b, and what is left, is a, and what is left is below b.
func TestQuotientsBack(t *testing.T) {
	for _, a := range samples() {
		for _, b := range some(60) {
			if b == zero {
				continue
			}
			quo, rest, _ := Div(a, b)
			product, over := wide.Mul(quo, b)
			back, carry := wide.Add(product, rest)
			if back != a || over || carry || wide.Cmp(rest, b) >= 0 {
				t.Fatalf("Div(%v, %v): %v, %v; back is %v", a, b, quo, rest, back)
			}
		}
	}
}

// TestRootsBack: P3.3; a root's square and what is left is a, and what is left is at most twice the root.
func TestRootsBack(t *testing.T) {
	for _, a := range append(samples(), some(4000)...) {
		root, rest := Sqrt(a)
		square, over := wide.Mul(root, root)
		back, carry := wide.Add(square, rest)
		twice, lost := wide.Left(root, 1)
		if back != a || over || carry || lost || wide.Cmp(rest, twice) > 0 {
			t.Fatalf("Sqrt(%v): %v, %v; back is %v", a, root, rest, back)
		}
	}
}

// TestDigitsOfMultiples: P3.3; a and b times the same number have the same digits, where those products and the one by 2^n are numbers at all.
func TestDigitsOfMultiples(t *testing.T) {
	held := 0
	for _, a := range fewSamples() {
		for _, b := range fewSamples() {
			for _, k := range []api.Wide{{2}, {3}, {ones}, {1 << 40}, {ones, ones}, {5, 0, 1}, {0, 0, 0, 1}} {
				ka, overA := wide.Mul(a, k)
				kb, overB := wide.Mul(b, k)
				for _, n := range []int{0, 1, 17, 64, 113, 200} {
					quo, more, e := Digits(ka, kb, n)
					if b == zero || overA || overB || e != api.OK {
						continue
					}
					held++
					if q, m, e := Digits(a, b, n); q != quo || m != more || e != api.OK {
						t.Fatalf("Digits(%v, %v, %d): %v, %v, %v; of %v times as much %v, %v", a, b, n, q, m, e, k, quo, more)
					}
				}
			}
		}
	}
	if held < 1000 {
		t.Errorf("only %d multiples to hold against each other", held)
	}
}

// answers is what all calls answer at one set of arguments.
type answers struct {
	wides [5]api.Wide
	more  bool
	e     [2]api.Errno
}

func ask(a, b api.Wide, n int) answers {
	var x answers
	x.wides[0], x.wides[1], x.e[0] = Div(a, b)
	x.wides[2], x.wides[3] = Sqrt(a)
	x.wides[4], x.more, x.e[1] = Digits(a, b, n)
	return x
}

// TestArgumentsAlone: P0.1; no argument makes a call panic, what was asked between does not change an answer, and no argument is another behind a call.
func TestArgumentsAlone(t *testing.T) {
	counts := append(fewCounts(), wrongCounts...)
	list := fewSamples()
	for i, a := range list {
		b := list[(i*7+3)%len(list)]
		keptA, keptB := a, b
		for j, n := range counts {
			first := ask(a, b, n)
			ask(b, a, counts[(j*5+2)%len(counts)])
			if again := ask(a, b, n); again != first {
				t.Fatalf("at %v, %v, %d: %v, then %v", a, b, n, first, again)
			}
		}
		if a != keptA || b != keptB {
			t.Fatalf("%v, %v became %v, %v", keptA, keptB, a, b)
		}
	}
}
