package exact

import (
	"math"
	"math/big"
	"strings"
	"testing"

	"abacus/api"
)

const (
	// longest is how many bits the longest Nat has, and maxExp the greatest Exp, by DOC.md's limits.
	longest = 8 * 16384
	maxExp  = 1048576
)

func num(a api.Nat) *big.Int { return new(big.Int).SetBytes([]byte(a)) }

func natOf(n *big.Int) api.Nat { return api.Nat(n.Bytes()) }

func small(x int64) api.Nat { return natOf(big.NewInt(x)) }

func power(n int) *big.Int { return new(big.Int).Lsh(big.NewInt(1), uint(n)) }

func plus(n *big.Int, x int64) *big.Int { return new(big.Int).Add(n, big.NewInt(x)) }

// most is the greatest Nat that may be.
func most() api.Nat { return natOf(plus(power(longest), -1)) }

// one0 is the only 0 that may be, by package api's words.
var one0 = api.Exact{Num: "", Den: "\x01"}

func exactOf(neg bool, n, d int64, exp int) api.Exact {
	return api.Exact{Neg: neg, Num: small(n), Den: small(d), Exp: exp}
}

func shortNat(a api.Nat) string {
	if len(a) > 60 {
		return "(of " + big.NewInt(int64(len(a))).String() + " bytes)"
	}
	return num(a).Text(16)
}

// short tells a number in a message.
func short(x api.Exact) string {
	sign := ""
	if x.Neg {
		sign = "-"
	}
	return sign + shortNat(x.Num) + "/" + shortNat(x.Den) + " times 2^" + big.NewInt(int64(x.Exp)).String()
}

// answer is what a call that tells an Exact answers.
type answer struct {
	x api.Exact
	e api.Errno
}

func of(x api.Exact, e api.Errno) answer { return answer{x, e} }

func fault(e api.Errno) answer { return answer{e: e} }

func (a answer) String() string { return short(a.x) + ", " + a.e.Error() }

// signed is a Num with its sign.
func signed(x api.Exact) *big.Int {
	n := num(x.Num)
	if x.Neg {
		n.Neg(n)
	}
	return n
}

func tooLong(numbers ...*big.Int) bool {
	for _, n := range numbers {
		if n.BitLen() > longest {
			return true
		}
	}
	return false
}

// wantMake is what Make promises of a number with its sign over den, both of lengths that may be.
func wantMake(n, den *big.Int, exp int) answer {
	if n.Sign() == 0 {
		return of(one0, api.OK)
	}
	g := new(big.Int).GCD(nil, nil, new(big.Int).Abs(n), den)
	top, bottom := new(big.Int).Quo(new(big.Int).Abs(n), g), new(big.Int).Quo(den, g)
	up, down := top.TrailingZeroBits(), bottom.TrailingZeroBits()
	exp += int(up) - int(down)
	if exp < -maxExp || exp > maxExp {
		return fault(api.ErrLong)
	}
	return of(api.Exact{Neg: n.Sign() < 0, Num: natOf(top.Rsh(top, up)), Den: natOf(bottom.Rsh(bottom, down)), Exp: exp}, api.OK)
}

// wantParts are a and b of Add's formula, with their signs.
func wantParts(x, y api.Exact) (a, b *big.Int, long bool) {
	low := min(x.Exp, y.Exp)
	a = new(big.Int).Mul(signed(x), num(y.Den))
	b = new(big.Int).Mul(signed(y), num(x.Den))
	// What is far too long is not made: that takes a while.
	if a.BitLen()+x.Exp-low > longest || b.BitLen()+y.Exp-low > longest {
		return nil, nil, true
	}
	return a.Lsh(a, uint(x.Exp-low)), b.Lsh(b, uint(y.Exp-low)), false
}

func wantAdd(x, y api.Exact) answer {
	if x == one0 {
		return of(y, api.OK)
	}
	if y == one0 {
		return of(x, api.OK)
	}
	a, b, long := wantParts(x, y)
	if long {
		return fault(api.ErrLong)
	}
	c := new(big.Int).Mul(num(x.Den), num(y.Den))
	s := new(big.Int).Add(a, b)
	if tooLong(c, s) {
		return fault(api.ErrLong)
	}
	return wantMake(s, c, min(x.Exp, y.Exp))
}

func wantNeg(x api.Exact) api.Exact {
	if x.Num != "" {
		x.Neg = !x.Neg
	}
	return x
}

func wantMul(x, y api.Exact) answer {
	if x == one0 || y == one0 {
		return of(one0, api.OK)
	}
	return wantProduct(signed(x), signed(y), num(x.Den), num(y.Den), x.Exp+y.Exp)
}

func wantQuo(x, y api.Exact) answer {
	if y == one0 {
		return fault(api.ErrArg)
	}
	if x == one0 {
		return of(one0, api.OK)
	}
	by := num(y.Den)
	if y.Neg {
		by.Neg(by)
	}
	return wantProduct(signed(x), by, num(x.Den), num(y.Num), x.Exp-y.Exp)
}

func wantProduct(n, m, d, c *big.Int, exp int) answer {
	top, bottom := new(big.Int).Mul(n, m), new(big.Int).Mul(d, c)
	if tooLong(top, bottom) || exp < -maxExp || exp > maxExp {
		return fault(api.ErrLong)
	}
	return wantMake(top, bottom, exp)
}

func wantCmp(x, y api.Exact) (int, api.Errno) {
	s, t := signed(x).Sign(), signed(y).Sign()
	if s != t || s == 0 {
		return big.NewInt(int64(s)).Cmp(big.NewInt(int64(t))), api.OK
	}
	a, b, long := wantParts(x, y)
	if long {
		return 0, api.ErrLong
	}
	return a.Cmp(b), api.OK
}

// wantFloor is the whole part of |x| by 2^e, by the definition.
func wantFloor(x api.Exact, e int) (m api.Nat, exact bool, fault api.Errno) {
	n, d := num(x.Num), num(x.Den)
	if x.Exp >= e {
		if n.Lsh(n, uint(x.Exp-e)); tooLong(n) {
			return "", false, api.ErrLong
		}
	} else {
		d.Lsh(d, uint(e-x.Exp))
	}
	quo, rest := new(big.Int).QuoRem(n, d, new(big.Int))
	return natOf(quo), rest.Sign() == 0, api.OK
}

// isTop tells whether 2^e is at most |x|, and |x| below 2^(e+1).
func isTop(x api.Exact, e int) bool {
	n, d := num(x.Num), num(x.Den)
	by := e - x.Exp
	if by > 0 {
		d.Lsh(d, uint(by))
	} else {
		n.Lsh(n, uint(-by))
	}
	return d.Cmp(n) <= 0 && n.Cmp(d.Lsh(d, 1)) < 0
}

// source tells the same words in each run.
type source uint64

func (s *source) next() uint64 {
	x := uint64(*s)
	x ^= x << 13
	x ^= x >> 7
	x ^= x << 17
	*s = source(x)
	return x
}

func newSource() *source {
	s := source(0x9e3779b97f4a7c15)
	return &s
}

func (s *source) below(n int) int { return int(s.next() >> 24 % uint64(n)) }

// bits tells numbers of up to n bits.
func (s *source) bits(n int) *big.Int {
	x := new(big.Int)
	for range n/64 + 1 {
		x.Lsh(x, 64)
		x.Or(x, new(big.Int).SetUint64(s.next()))
	}
	return x.Rsh(x, uint(x.BitLen()-s.below(n+1)))
}

// factors tells products of small primes, which have many factors in common.
func (s *source) factors(n int) *big.Int {
	some := [...]int64{1, 2, 3, 5, 7, 2, 3, 8, 15, 64}
	x := big.NewInt(1)
	for range s.below(n + 1) {
		x.Mul(x, big.NewInt(some[s.below(len(some))]))
	}
	return x
}

// exact tells numbers of which Num and Den have some bits each; a 0 now and then.
func (s *source) exact(bits int) api.Exact {
	n, d := s.bits(bits), plus(s.bits(bits), 1)
	switch s.below(4) {
	case 0:
		n, d = s.factors(9), s.factors(9)
	case 1:
		d = big.NewInt(1)
	}
	if s.below(2) == 0 {
		n.Neg(n)
	}
	return wantMake(n, d, s.below(161)-80).x
}

// edges are numbers that may be, about the ends of what an Exact is.
func edges() []api.Exact {
	var out []api.Exact
	for _, neg := range []bool{false, true} {
		for _, exp := range []int{0, 1, -1, 2, -2, 63, -64, maxExp, -maxExp, maxExp - 1, 1 - maxExp} {
			for _, d := range [][2]int64{{1, 1}, {1, 3}, {3, 1}, {5, 3}, {3, 5}, {7, 9}, {255, 257}, {math.MaxInt64, 3}} {
				out = append(out, exactOf(neg, d[0], d[1], exp))
			}
		}
	}
	return append(out, one0)
}

// longs are numbers that may be of the greatest lengths, and half of it. (2^n - 1 and 2^n + 1 are odd and have no factor in common.)
func longs() []api.Exact {
	half := longest / 2
	var out []api.Exact
	for _, exp := range []int{0, -5, maxExp, -maxExp} {
		out = append(out,
			api.Exact{Num: most(), Den: "\x01", Exp: exp},
			api.Exact{Neg: true, Num: "\x01", Den: most(), Exp: exp},
			api.Exact{Num: most(), Den: natOf(plus(power(longest-1), -1)), Exp: exp},
			api.Exact{Num: natOf(plus(power(longest-1), -1)), Den: most(), Exp: exp},
			api.Exact{Neg: true, Num: natOf(plus(power(half), -1)), Den: "\x01", Exp: exp},
			api.Exact{Num: natOf(plus(power(half), 1)), Den: natOf(plus(power(half), -1)), Exp: exp},
			api.Exact{Num: natOf(plus(power(longest-1), 1)), Den: "\x01", Exp: exp},
		)
	}
	return out
}

// wrong are Exacts that may not be.
func wrong() []api.Exact {
	tooLong := api.Nat(strings.Repeat("\xff", 16385))
	out := []api.Exact{
		{}, {Num: "\x01"}, {Neg: true}, {Exp: 1},
		{Num: "", Den: "\x03"}, {Num: "", Den: "\x02"}, {Num: "", Den: most()},
		{Neg: true, Num: "", Den: "\x01"}, {Num: "", Den: "\x01", Exp: 1}, {Num: "", Den: "\x01", Exp: -1},
		{Num: "", Den: "\x01", Exp: maxExp}, {Neg: true, Num: "", Den: "\x01", Exp: 3},
		{Num: "\x02", Den: "\x01"}, {Num: "\x01", Den: "\x02"}, {Num: "\x02", Den: "\x02"}, {Num: "\x06", Den: "\x05"}, {Num: "\x05", Den: "\x06"},
		{Num: "\x01\x00", Den: "\x01"}, {Num: "\x01", Den: "\x01\x00"},
		{Num: "\x03", Den: "\x03"}, {Num: "\x03", Den: "\x09"}, {Num: "\x09", Den: "\x03"}, {Num: "\x0f", Den: "\x15"}, {Num: "\xff\xff", Den: "\xff"},
		{Num: "\x00", Den: "\x01"}, {Num: "\x00\x01", Den: "\x01"}, {Num: "\x01", Den: "\x00\x01"}, {Num: "\x01", Den: "\x00"}, {Num: "\x00\x03", Den: "\x05"},
		{Num: tooLong, Den: "\x01"}, {Num: "\x01", Den: tooLong}, {Num: tooLong, Den: tooLong},
		{Num: most(), Den: "\x03"}, {Num: "\x03", Den: most()}, {Num: most(), Den: most()}, {Num: most(), Den: natOf(plus(power(longest/2), -1))},
	}
	for _, exp := range []int{maxExp + 1, -maxExp - 1, 2 * maxExp, math.MaxInt, math.MinInt, math.MinInt + 1, math.MaxInt32} {
		out = append(out, exactOf(false, 1, 1, exp), exactOf(true, 3, 5, exp), api.Exact{Num: "", Den: "\x01", Exp: exp})
	}
	return out
}

// samples are edges, and many more with exponents that are near one another.
func samples() []api.Exact {
	out := edges()
	s := newSource()
	for range 150 {
		out = append(out, s.exact(200))
	}
	return out
}

// forPairs goes over pairs of all kinds: of all samples, of the long ones and some others, and of many more that are near one another.
func forPairs(check func(x, y api.Exact)) {
	for _, x := range samples() {
		for _, y := range samples() {
			check(x, y)
		}
	}
	long := longs()
	for i, x := range long {
		for j, y := range []api.Exact{one0, exactOf(false, 1, 1, 0), exactOf(true, 1, 3, -4), exactOf(false, 1, 1, -maxExp), exactOf(true, 1, 1, maxExp), long[i], wantNeg(long[i]), long[(i+3)%len(long)]} {
			// A quotient of two long ones takes a while: not all of them.
			if j < 5 || i < 7 {
				check(x, y)
				check(y, x)
			}
		}
	}
	s := newSource()
	for range 6000 {
		x, y := s.exact(300), s.exact(100)
		check(x, y)
		check(x, x)
		check(x, wantNeg(x))
	}
}

// TestCheck: P6.1; of each rational number there is one Exact that may be.
func TestCheck(t *testing.T) {
	for _, x := range append(samples(), longs()...) {
		if e := Check(x); e != api.OK {
			t.Errorf("Check(%s): %v", short(x), e)
		}
	}
	for _, x := range wrong() {
		if e := Check(x); e != api.ErrArg {
			t.Errorf("Check(%s), which may not be: %v", short(x), e)
		}
	}
}

// TestCheckSmall: P6.1; all pairs of small Nums and Dens.
func TestCheckSmall(t *testing.T) {
	for n := range int64(70) {
		for d := range int64(70) {
			want := api.ErrArg
			if n%2 == 1 && d%2 == 1 && apartBig(n, d) || n == 0 && d == 1 {
				want = api.OK
			}
			if e := Check(exactOf(false, n, d, 0)); e != want {
				t.Errorf("Check(%d/%d): %v", n, d, e)
			}
		}
	}
}

func apartBig(n, d int64) bool {
	return new(big.Int).GCD(nil, nil, big.NewInt(n), big.NewInt(d)).Cmp(big.NewInt(1)) == 0
}

// TestMake: P6.1, held against math/big.
func TestMake(t *testing.T) {
	s := newSource()
	for i := range 20000 {
		n, d := s.bits(150), plus(s.bits(150), 1)
		if i%2 == 0 {
			n, d = s.factors(12), s.factors(12)
		}
		common := s.factors(5)
		n.Mul(n, common)
		d.Mul(d, common)
		exp := s.below(200) - 100
		for _, neg := range []bool{false, true} {
			want := wantMake(n, d, exp)
			want.x.Neg = neg && n.Sign() != 0
			if got := of(Make(neg, natOf(n), natOf(d), exp)); got != want {
				t.Fatalf("Make(%v, %x, %x, %d): %v; wanted %v", neg, n, d, exp, got, want)
			}
		}
	}
}

// TestMakeEdges: P6.1; the bounds of Exp, as it is given and as it comes out, and the greatest lengths.
func TestMakeEdges(t *testing.T) {
	one := small(1)
	longEven := natOf(power(longest - 1))
	three := natOf(new(big.Int).Mul(big.NewInt(3), plus(power(longest-3), 1)))
	rows := []struct {
		num, den api.Nat
		exp      int
		want     answer
	}{
		{one, one, maxExp, of(exactOf(false, 1, 1, maxExp), api.OK)},
		{one, one, -maxExp, of(exactOf(false, 1, 1, -maxExp), api.OK)},
		{one, one, maxExp + 1, fault(api.ErrArg)},
		{one, one, -maxExp - 1, fault(api.ErrArg)},
		{one, one, math.MaxInt, fault(api.ErrArg)},
		{one, one, math.MinInt, fault(api.ErrArg)},
		{small(2), one, maxExp, fault(api.ErrLong)},
		{small(2), one, maxExp - 1, of(exactOf(false, 1, 1, maxExp), api.OK)},
		{one, small(2), -maxExp, fault(api.ErrLong)},
		{one, small(2), 1 - maxExp, of(exactOf(false, 1, 1, -maxExp), api.OK)},
		{small(2), small(2), maxExp, of(exactOf(false, 1, 1, maxExp), api.OK)},
		{small(6), small(2), -maxExp, of(exactOf(false, 3, 1, -maxExp), api.OK)},
		{small(4), small(2), maxExp, fault(api.ErrLong)},
		{small(2), small(4), -maxExp, fault(api.ErrLong)},
		{small(2), one, -maxExp - 1, fault(api.ErrArg)},
		{one, small(2), maxExp + 1, fault(api.ErrArg)},
		{longEven, one, maxExp - longest + 1, of(exactOf(false, 1, 1, maxExp), api.OK)},
		{longEven, one, maxExp - longest + 2, fault(api.ErrLong)},
		{one, longEven, longest - 1 - maxExp, of(exactOf(false, 1, 1, -maxExp), api.OK)},
		{one, longEven, longest - 2 - maxExp, fault(api.ErrLong)},
		{longEven, longEven, maxExp, of(exactOf(false, 1, 1, maxExp), api.OK)},
		{most(), most(), -maxExp, of(exactOf(false, 1, 1, -maxExp), api.OK)},
		{three, small(6), 9, of(api.Exact{Num: natOf(plus(power(longest-3), 1)), Den: one, Exp: 8}, api.OK)},
		{most(), longEven, 0, of(api.Exact{Num: most(), Den: one, Exp: 1 - longest}, api.OK)},
		{"", one, maxExp, of(one0, api.OK)},
		{"", small(2), -maxExp, of(one0, api.OK)},
		{"", most(), 7, of(one0, api.OK)},
		{"", one, maxExp + 1, fault(api.ErrArg)},
		{"", one, -maxExp - 1, fault(api.ErrArg)},
		{"", "", 0, fault(api.ErrArg)},
		{one, "", 0, fault(api.ErrArg)},
		{one, "", maxExp + 1, fault(api.ErrArg)},
		{"\x00", one, 0, fault(api.ErrArg)},
		{"\x00\x01", one, 0, fault(api.ErrArg)},
		{one, "\x00", 0, fault(api.ErrArg)},
		{one, "\x00\x01", 0, fault(api.ErrArg)},
		{most() + "\x01", one, 0, fault(api.ErrArg)},
		{one, most() + "\x01", 0, fault(api.ErrArg)},
		{most() + "\x00", most() + "\x00", 0, fault(api.ErrArg)},
		{small(2), "\x00\x01", maxExp, fault(api.ErrArg)},
	}
	for _, r := range rows {
		for _, neg := range []bool{false, true} {
			want := r.want
			want.x.Neg = neg && want.x.Num != ""
			if got := of(Make(neg, r.num, r.den, r.exp)); got != want {
				t.Errorf("Make(%v, %s, %s, %d): %v; wanted %v", neg, shortNat(r.num), shortNat(r.den), r.exp, got, want)
			}
		}
	}
}

// TestWholeWord: P6.1; all the ends of an int64 and of a word.
func TestWholeWord(t *testing.T) {
	s := newSource()
	words := []uint64{0, 1, 2, 3, 4, 5, 6, 12, 255, 256, 1 << 32, 1<<62 + 1, 1<<63 - 1, 1 << 63, 1<<63 + 1, 3 << 62, math.MaxUint64 - 1, math.MaxUint64}
	for range 300 {
		words = append(words, s.next()>>s.below(64)<<s.below(64))
	}
	one := big.NewInt(1)
	for _, x := range words {
		if got, want := Word(x), wantMake(new(big.Int).SetUint64(x), one, 0); of(got, api.OK) != want {
			t.Errorf("Word(%d): %s", x, short(got))
		}
		for _, y := range []int64{int64(x), -int64(x)} {
			if got, want := Whole(y), wantMake(big.NewInt(y), one, 0); of(got, api.OK) != want {
				t.Errorf("Whole(%d): %s", y, short(got))
			}
		}
	}
	if x := Whole(math.MinInt64); x != exactOf(true, 1, 1, 63) {
		t.Errorf("Whole of the least: %s", short(x))
	}
}

// TestSigns: P6.2.
func TestSigns(t *testing.T) {
	for _, x := range append(samples(), longs()...) {
		if got := Sign(x); got != signed(x).Sign() {
			t.Errorf("Sign(%s): %d", short(x), got)
		}
		if got := Neg(x); got != wantNeg(x) {
			t.Errorf("Neg(%s): %s", short(x), short(got))
		}
		want := x
		want.Neg = false
		if got := Abs(x); got != want {
			t.Errorf("Abs(%s): %s", short(x), short(got))
		}
	}
	for _, x := range wrong() {
		if Sign(x) != 0 || Neg(x) != (api.Exact{}) || Abs(x) != (api.Exact{}) {
			t.Errorf("%s, which may not be: %d, %s, %s", short(x), Sign(x), short(Neg(x)), short(Abs(x)))
		}
	}
}

func check2(t *testing.T, what string, x, y api.Exact, got, want answer) {
	t.Helper()
	if got != want {
		t.Fatalf("%s(%s, %s): %v; wanted %v", what, short(x), short(y), got, want)
	}
}

// TestAddSub: P6.3, held against the formula by math/big.
func TestAddSub(t *testing.T) {
	forPairs(func(x, y api.Exact) {
		check2(t, "Add", x, y, of(Add(x, y)), wantAdd(x, y))
		check2(t, "Sub", x, y, of(Sub(x, y)), wantAdd(x, wantNeg(y)))
	})
}

// TestMulQuo: P6.3, likewise.
func TestMulQuo(t *testing.T) {
	forPairs(func(x, y api.Exact) {
		check2(t, "Mul", x, y, of(Mul(x, y)), wantMul(x, y))
		check2(t, "Quo", x, y, of(Quo(x, y)), wantQuo(x, y))
	})
}

// TestSumLengths: P6.3; each number of the formula at the greatest length, and at one bit more.
func TestSumLengths(t *testing.T) {
	one := exactOf(false, 1, 1, 0)
	third := exactOf(false, 1, 3, 0)
	half := longest / 2
	// d has half the length; d times d is the longest, d times e a bit too long.
	d := natOf(plus(power(half), -1))
	e := natOf(plus(power(half), 1))
	rows := []struct {
		what string
		x, y api.Exact
		e    api.Errno
	}{
		{"a moved to the greatest length", exactOf(false, 1, 1, longest-1), one, api.OK},
		{"a moved too far", exactOf(false, 1, 1, longest), one, api.ErrLong},
		{"a moved too far, signs apart", exactOf(true, 1, 1, longest), one, api.ErrLong},
		{"a times Den moved to the greatest length", exactOf(false, 1, 1, longest-2), third, api.OK},
		{"a times Den moved too far", exactOf(false, 1, 1, longest-1), third, api.ErrLong},
		{"a too long", api.Exact{Num: most(), Den: "\x01"}, third, api.ErrLong},
		{"the sum too long", api.Exact{Num: most(), Den: "\x01"}, one, api.ErrLong},
		{"the sum just not", api.Exact{Num: natOf(plus(power(longest), -3)), Den: "\x01"}, one, api.OK},
		{"a difference of the longest", api.Exact{Num: most(), Den: "\x01"}, api.Exact{Neg: true, Num: most(), Den: "\x01"}, api.OK},
		{"c of the greatest length", api.Exact{Num: "\x01", Den: d}, api.Exact{Num: "\x01", Den: d}, api.OK},
		{"c too long", api.Exact{Num: "\x01", Den: e}, api.Exact{Num: "\x01", Den: e}, api.ErrLong},
		{"c too long below a difference that is 0", api.Exact{Num: "\x01", Den: e}, api.Exact{Neg: true, Num: "\x01", Den: e}, api.ErrLong},
		{"a too long in a difference that is 0", api.Exact{Num: most(), Den: natOf(plus(power(longest-1), -1))}, api.Exact{Neg: true, Num: most(), Den: natOf(plus(power(longest-1), -1))}, api.ErrLong},
		{"Exp too great by the sum", exactOf(false, 1, 1, maxExp), exactOf(false, 1, 1, maxExp), api.ErrLong},
		{"Exp at the bound by the sum", exactOf(true, 1, 1, maxExp-1), exactOf(true, 1, 1, maxExp-1), api.OK},
		{"Exp apart by twice the bound", exactOf(false, 1, 1, maxExp), exactOf(false, 1, 1, -maxExp), api.ErrLong},
		{"0 with whatever", one0, api.Exact{Num: most(), Den: natOf(plus(power(longest-1), -1)), Exp: maxExp}, api.OK},
		{"both 0", one0, one0, api.OK},
	}
	for _, r := range rows {
		for _, turn := range []bool{false, true} {
			x, y := r.x, r.y
			if turn {
				x, y = wantNeg(y), wantNeg(x)
			}
			if want := wantAdd(x, y); want.e != r.e {
				t.Fatalf("%s: the row is wrong: %v", r.what, want)
			}
			check2(t, r.what+": Add", x, y, of(Add(x, y)), wantAdd(x, y))
			check2(t, r.what+": Sub", x, wantNeg(y), of(Sub(x, wantNeg(y))), wantAdd(x, y))
		}
	}
}

// TestProductLengths: P6.3; Nums, Dens and Exps at their bounds and one beyond.
func TestProductLengths(t *testing.T) {
	half := longest / 2
	d := natOf(plus(power(half), -1))
	e := natOf(plus(power(half), 1))
	whole := func(n api.Nat) api.Exact { return api.Exact{Num: n, Den: "\x01"} }
	part := func(n api.Nat) api.Exact { return api.Exact{Num: "\x01", Den: n} }
	rows := []struct {
		what     string
		x, y     api.Exact
		mul, quo api.Errno
	}{
		{"Nums of the greatest length", whole(d), whole(d), api.OK, api.OK},
		{"Nums too long", whole(e), whole(e), api.ErrLong, api.OK},
		{"Dens of the greatest length", part(d), part(d), api.OK, api.OK},
		{"Dens too long", part(e), part(e), api.ErrLong, api.OK},
		{"both ways", whole(e), part(e), api.OK, api.ErrLong},
		{"too long, though it would come to 1", api.Exact{Num: most(), Den: "\x07"}, api.Exact{Num: "\x07", Den: most()}, api.ErrLong, api.ErrLong},
		{"too long, though it would be shorter", api.Exact{Num: most(), Den: "\x01"}, api.Exact{Num: "\x01", Den: "\x03"}, api.OK, api.ErrLong},
		{"Exp at the bound above", exactOf(false, 1, 1, maxExp), exactOf(false, 1, 1, 0), api.OK, api.OK},
		{"Exp above it", exactOf(false, 1, 1, maxExp), exactOf(true, 3, 5, 1), api.ErrLong, api.OK},
		{"Exp above it by a quotient", exactOf(false, 1, 1, maxExp), exactOf(true, 3, 5, -1), api.OK, api.ErrLong},
		{"Exp at the bound below", exactOf(false, 1, 1, -maxExp), exactOf(true, 1, 1, 0), api.OK, api.OK},
		{"Exp below it", exactOf(false, 1, 1, -maxExp), exactOf(false, 1, 1, -1), api.ErrLong, api.OK},
		{"Exp below it by a quotient", exactOf(false, 1, 1, -maxExp), exactOf(false, 1, 1, 1), api.OK, api.ErrLong},
		{"twice the bound", exactOf(false, 1, 1, maxExp), exactOf(false, 1, 1, maxExp), api.ErrLong, api.OK},
		{"0 and the longest", one0, api.Exact{Num: most(), Den: natOf(plus(power(longest-1), -1)), Exp: maxExp}, api.OK, api.OK},
		{"both 0", one0, one0, api.OK, api.ErrArg},
		{"by 0", part(e), one0, api.OK, api.ErrArg},
	}
	for _, r := range rows {
		mul, quo := wantMul(r.x, r.y), wantQuo(r.x, r.y)
		if mul.e != r.mul || quo.e != r.quo {
			t.Fatalf("%s: the row is wrong: %v; %v", r.what, mul, quo)
		}
		check2(t, r.what+": Mul", r.x, r.y, of(Mul(r.x, r.y)), mul)
		check2(t, r.what+": Mul", r.y, r.x, of(Mul(r.y, r.x)), mul)
		check2(t, r.what+": Quo", r.x, r.y, of(Quo(r.x, r.y)), quo)
	}
}

func checkCmp(t *testing.T, x, y api.Exact) {
	t.Helper()
	order, e := wantCmp(x, y)
	if got, f := Cmp(x, y); got != order || f != e {
		t.Fatalf("Cmp(%s, %s): %d, %v; wanted %d, %v", short(x), short(y), got, f, order, e)
	}
}

// TestCmp: P6.4, held against the formula by math/big.
func TestCmp(t *testing.T) {
	forPairs(func(x, y api.Exact) {
		checkCmp(t, x, y)
		checkCmp(t, wantNeg(x), wantNeg(y))
	})
}

// TestCmpLengths: P6.4; a and b at the greatest length and beyond; the signs alone tell where they are not the same, however long both are.
func TestCmpLengths(t *testing.T) {
	long := api.Exact{Num: most(), Den: natOf(plus(power(longest-1), -1)), Exp: maxExp}
	rows := []struct {
		x, y  api.Exact
		order int
		e     api.Errno
	}{
		{exactOf(false, 1, 1, longest-1), exactOf(false, 1, 1, 0), 1, api.OK},
		{exactOf(true, 1, 1, longest-1), exactOf(true, 1, 1, 0), -1, api.OK},
		{exactOf(false, 1, 1, longest), exactOf(false, 1, 1, 0), 0, api.ErrLong},
		{exactOf(true, 1, 1, longest), exactOf(true, 1, 1, 0), 0, api.ErrLong},
		{exactOf(false, 1, 1, longest), exactOf(true, 1, 1, 0), 1, api.OK},
		{exactOf(false, 1, 1, maxExp), exactOf(false, 1, 1, -maxExp), 0, api.ErrLong},
		{exactOf(false, 1, 1, maxExp), exactOf(true, 1, 1, -maxExp), 1, api.OK},
		{exactOf(false, 1, 1, maxExp), one0, 1, api.OK},
		{exactOf(true, 1, 1, -maxExp), one0, -1, api.OK},
		{exactOf(false, 1, 1, maxExp), exactOf(false, 1, 1, maxExp), 0, api.OK},
		{exactOf(false, 1, 1, maxExp), exactOf(false, 3, 1, maxExp), -1, api.OK},
		{one0, one0, 0, api.OK},
		{long, wantNeg(long), 1, api.OK},
		{long, one0, 1, api.OK},
		{long, long, 0, api.ErrLong},
		{long, exactOf(false, 1, 1, maxExp), 1, api.OK},
		{long, exactOf(false, 1, 3, maxExp), 0, api.ErrLong},
		// c of the formula is no part of a and b.
		{api.Exact{Num: "\x01", Den: natOf(plus(power(longest-1), -1))}, api.Exact{Num: "\x01", Den: most()}, 1, api.OK},
	}
	for _, r := range rows {
		if got, e := Cmp(r.x, r.y); got != r.order || e != r.e {
			t.Errorf("Cmp(%s, %s): %d, %v", short(r.x), short(r.y), got, e)
		}
		if got, e := Cmp(r.y, r.x); got != -r.order || e != r.e {
			t.Errorf("Cmp(%s, %s): %d, %v", short(r.y), short(r.x), got, e)
		}
	}
}

// TestScale: P6.4; with counts up to the ends of an int.
func TestScale(t *testing.T) {
	counts := []int{0, 1, -1, 2, -3, 64, 1000, maxExp - 1, maxExp, maxExp + 1, -maxExp, -maxExp - 1, 2*maxExp - 1, 2 * maxExp, 2*maxExp + 1, -2 * maxExp, -2*maxExp - 1, math.MaxInt32, math.MinInt32, math.MaxInt, math.MaxInt - 1, math.MaxInt - maxExp, math.MaxInt - maxExp + 1, math.MinInt, math.MinInt + 1, math.MinInt + maxExp, math.MinInt + maxExp - 1}
	for _, x := range append(samples(), longs()...) {
		for _, n := range counts {
			want := of(x, api.OK)
			exp := plus(big.NewInt(int64(n)), int64(x.Exp))
			if x.Num != "" && exp.CmpAbs(big.NewInt(maxExp)) <= 0 {
				want.x.Exp = int(exp.Int64())
			} else if x.Num != "" {
				want = fault(api.ErrLong)
			}
			if got := of(Scale(x, n)); got != want {
				t.Fatalf("Scale(%s, %d): %v; wanted %v", short(x), n, got, want)
			}
		}
	}
	for _, x := range wrong() {
		for _, n := range counts {
			if got := of(Scale(x, n)); got != fault(api.ErrArg) {
				t.Fatalf("Scale(%s, %d), which may not be: %v", short(x), n, got)
			}
		}
	}
}

// nearPowers are numbers just at, below and above powers of two: there Num over Den, of whatever lengths, tell the one or the other Top.
func nearPowers() []api.Exact {
	var out []api.Exact
	for _, n := range []int{1, 2, 3, 7, 8, 9, 31, 63, 64, 65, 127, 200} {
		for _, m := range []int{1, 2, 3, 8, 33, 64, 130} {
			for i := range 9 {
				a, b := plus(power(n), int64(i/3-1)), plus(power(m), int64(i%3-1))
				if b.Sign() > 0 {
					out = append(out, wantMake(a, b, 5).x, wantMake(a.Neg(a), b, -7).x)
				}
			}
		}
	}
	return out
}

// TestTop: P6.5, held against its definition.
func TestTop(t *testing.T) {
	all := append(append(samples(), longs()...), nearPowers()...)
	s := newSource()
	for range 3000 {
		all = append(all, s.exact(300))
	}
	for _, x := range all {
		e, f := Top(x)
		if x.Num == "" && (e != 0 || f != api.ErrArg) {
			t.Errorf("Top(0): %d, %v", e, f)
		}
		if x.Num != "" && (f != api.OK || !isTop(x, e)) {
			t.Errorf("Top(%s): %d, %v", short(x), e, f)
		}
	}
	if e, f := Top(exactOf(true, 1, 1, maxExp)); e != maxExp || f != api.OK {
		t.Errorf("Top of -2^maxExp: %d, %v", e, f)
	}
	if e, f := Top(api.Exact{Num: "\x01", Den: most(), Exp: -maxExp}); e != -maxExp-longest || f != api.OK {
		t.Errorf("Top of the least: %d, %v", e, f)
	}
	if e, f := Top(api.Exact{Num: most(), Den: "\x01", Exp: maxExp}); e != maxExp+longest-1 || f != api.OK {
		t.Errorf("Top of the greatest: %d, %v", e, f)
	}
}

func checkFloor(t *testing.T, x api.Exact, e int) {
	t.Helper()
	want, is, f := wantFloor(x, e)
	if m, exact, fault := Floor(x, e); m != want || exact != is || fault != f {
		t.Fatalf("Floor(%s, %d): %s, %v, %v; wanted %s, %v, %v", short(x), e, shortNat(m), exact, fault, shortNat(want), is, f)
	}
}

// TestFloor: P6.5, held against its definition; at all powers about the number itself.
func TestFloor(t *testing.T) {
	s := newSource()
	all := nearPowers()
	for range 700 {
		all = append(all, s.exact(130))
	}
	for _, x := range all {
		for e := x.Exp - 140; e < x.Exp+140; e += 1 + s.below(9) {
			checkFloor(t, x, e)
		}
		for e := x.Exp - 4; e < x.Exp+4; e++ {
			checkFloor(t, x, e)
		}
		if top, f := Top(x); f == api.OK {
			for e := top - 3; e < top+4; e++ {
				checkFloor(t, x, e)
			}
		}
	}
}

// TestFloorEdges: P6.5; at the bounds of e, and of what nat.Left answers.
func TestFloorEdges(t *testing.T) {
	all := append(edges(), longs()...)
	for _, x := range all {
		for _, e := range []int{2 * maxExp, 2*maxExp - 1, -2 * maxExp, 1 - 2*maxExp, maxExp, -maxExp, maxExp + 1, -maxExp - 1, 0} {
			checkFloor(t, x, e)
		}
		room := longest - num(x.Num).BitLen()
		for d := -1; d < 2; d++ {
			if e := x.Exp - room + d; -2*maxExp <= e && e <= 2*maxExp {
				checkFloor(t, x, e)
			}
			checkFloor(t, x, x.Exp+d)
		}
	}
	for _, x := range append(all, wrong()...) {
		for _, e := range []int{2*maxExp + 1, -2*maxExp - 1, 3 * maxExp, math.MaxInt, math.MinInt, math.MinInt + 1} {
			if m, exact, f := Floor(x, e); m != "" || exact || f != api.ErrArg {
				t.Errorf("Floor(%s, %d): %s, %v, %v", short(x), e, shortNat(m), exact, f)
			}
		}
	}
}

// TestFloorLong: P6.5; ErrLong just where nat.Left answers it, though the whole part would be short; and never where Exp is below e, though Den moved would be too long.
func TestFloorLong(t *testing.T) {
	den := natOf(plus(power(longest-1), 1))
	rows := []struct {
		x     api.Exact
		e     int
		m     api.Nat
		exact bool
		fault api.Errno
	}{
		{exactOf(false, 1, 1, longest-1), 0, natOf(power(longest - 1)), true, api.OK},
		{exactOf(false, 1, 1, longest), 0, "", false, api.ErrLong},
		{api.Exact{Num: "\x01", Den: den, Exp: longest - 1}, 0, "", false, api.OK},
		{api.Exact{Num: "\x01", Den: den, Exp: longest}, 0, "", false, api.ErrLong},
		{api.Exact{Num: "\x05", Den: den, Exp: longest - 3}, 0, "\x01", false, api.OK},
		{api.Exact{Num: "\x01", Den: den, Exp: 0}, 1, "", false, api.OK},
		{api.Exact{Num: "\x01", Den: den, Exp: -maxExp}, 2 * maxExp, "", false, api.OK},
		{api.Exact{Num: most(), Den: "\x01", Exp: -maxExp}, 2 * maxExp, "", false, api.OK},
		{api.Exact{Num: most(), Den: "\x01", Exp: -maxExp}, longest - 1 - maxExp, "\x01", false, api.OK},
		{api.Exact{Num: most(), Den: "\x01", Exp: -maxExp}, longest - maxExp, "", false, api.OK},
		{api.Exact{Num: most(), Den: "\x07", Exp: 0}, 0, natOf(new(big.Int).Quo(num(most()), big.NewInt(7))), false, api.OK},
		{api.Exact{Num: most(), Den: "\x07", Exp: 0}, -1, "", false, api.ErrLong},
		{api.Exact{Neg: true, Num: most(), Den: "\x01", Exp: maxExp}, maxExp, most(), true, api.OK},
		{api.Exact{Neg: true, Num: most(), Den: "\x01", Exp: maxExp}, maxExp - 1, "", false, api.ErrLong},
		{exactOf(false, 1, 1, maxExp), -2 * maxExp, "", false, api.ErrLong},
		{one0, -2 * maxExp, "", true, api.OK},
		{one0, 2 * maxExp, "", true, api.OK},
		{one0, 0, "", true, api.OK},
	}
	for _, r := range rows {
		if m, exact, f := Floor(r.x, r.e); m != r.m || exact != r.exact || f != r.fault {
			t.Errorf("Floor(%s, %d): %s, %v, %v", short(r.x), r.e, shortNat(m), exact, f)
		}
	}
}

// TestText: P6.6.
func TestText(t *testing.T) {
	for _, x := range append(samples(), longs()...) {
		want := num(x.Num).Text(16) + "/" + num(x.Den).Text(16) + "p" + big.NewInt(int64(x.Exp)).String()
		if x.Neg {
			want = "-" + want
		}
		if got, e := Text(x); got != want || e != api.OK {
			t.Errorf("Text(%s): %.60s, %v", short(x), got, e)
		}
	}
	rows := map[string]api.Exact{
		"-3/5p2": exactOf(true, 3, 5, 2), "0/1p0": one0, "1/1p-1": exactOf(false, 1, 1, -1), "-ff/1p0": exactOf(true, 255, 1, 0),
		"1/abcdefp-1048576": exactOf(false, 1, 0xabcdef, -maxExp), "11/3p1048576": exactOf(false, 17, 3, maxExp),
	}
	for want, x := range rows {
		if got, e := Text(x); got != want || e != api.OK {
			t.Errorf("Text(%s): %s, %v", short(x), got, e)
		}
	}
}

// TestWrongNumbers: P6.1 to P6.6 and P0.1; one that may not be is ErrArg on either side, beside 0 and what is too long, and zero values stand beside it.
func TestWrongNumbers(t *testing.T) {
	calls := map[string]func(x, y api.Exact) (api.Exact, api.Errno){"Add": Add, "Sub": Sub, "Mul": Mul, "Quo": Quo}
	others := append([]api.Exact{one0, exactOf(false, 1, 1, 0), exactOf(true, 3, 5, maxExp), {Num: most(), Den: "\x01"}}, wrong()[:20]...)
	check := func(x, y api.Exact) {
		for name, f := range calls {
			if got := of(f(x, y)); got != fault(api.ErrArg) {
				t.Errorf("%s(%s, %s), which may not be: %v", name, short(x), short(y), got)
			}
		}
		if order, e := Cmp(x, y); order != 0 || e != api.ErrArg {
			t.Errorf("Cmp(%s, %s), which may not be: %d, %v", short(x), short(y), order, e)
		}
	}
	for _, x := range wrong() {
		for _, y := range others {
			check(x, y)
			check(y, x)
		}
		if e, f := Top(x); e != 0 || f != api.ErrArg {
			t.Errorf("Top(%s), which may not be: %d, %v", short(x), e, f)
		}
		for _, e := range []int{0, x.Exp, -2 * maxExp, 2 * maxExp} {
			if m, exact, f := Floor(x, e); m != "" || exact || f != api.ErrArg {
				t.Errorf("Floor(%s, %d), which may not be: %s, %v, %v", short(x), e, shortNat(m), exact, f)
			}
		}
		if s, f := Text(x); s != "" || f != api.ErrArg {
			t.Errorf("Text(%s), which may not be: %.60s, %v", short(x), s, f)
		}
	}
}

// TestExamples: P6.1 to P6.6, as the chapter has them.
func TestExamples(t *testing.T) {
	third, sixth, half := exactOf(false, 1, 3, 0), exactOf(false, 1, 3, -1), exactOf(false, 1, 1, -1)
	rows := []struct {
		what      string
		got, want answer
	}{
		{"Make(false, 6, 4, 0)", of(Make(false, "\x06", "\x04", 0)), of(exactOf(false, 3, 1, -1), api.OK)},
		{"Make(true, nothing, 1, 5)", of(Make(true, "", "\x01", 5)), of(one0, api.OK)},
		{"Make(false, 1, nothing, 0)", of(Make(false, "\x01", "", 0)), fault(api.ErrArg)},
		{"Add(1/3, 1/6)", of(Add(third, sixth)), of(half, api.OK)},
		{"Sub(1/2, 1/2)", of(Sub(half, half)), of(one0, api.OK)},
		{"Quo(1, 0)", of(Quo(Whole(1), Whole(0))), fault(api.ErrArg)},
		{"Scale(1, 2^20)", of(Scale(Whole(1), 1<<20)), of(exactOf(false, 1, 1, 1<<20), api.OK)},
		{"Scale(1, 2^20 + 1)", of(Scale(Whole(1), 1<<20+1)), fault(api.ErrLong)},
	}
	for _, r := range rows {
		if r.got != r.want {
			t.Errorf("%s: %v", r.what, r.got)
		}
	}
	if e, f := Top(third); e != -2 || f != api.OK {
		t.Errorf("Top(1/3): %d, %v", e, f)
	}
	if e, f := Top(Whole(4)); e != 2 || f != api.OK {
		t.Errorf("Top(4): %d, %v", e, f)
	}
	if e, f := Top(Whole(0)); e != 0 || f != api.ErrArg {
		t.Errorf("Top(0): %d, %v", e, f)
	}
	if m, exact, f := Floor(exactOf(false, 7, 1, -1), 0); m != "\x03" || exact || f != api.OK {
		t.Errorf("Floor(7/2, 0): %x, %v, %v", string(m), exact, f)
	}
	if m, exact, f := Floor(exactOf(true, 7, 1, -1), 1); m != "\x01" || exact || f != api.OK {
		t.Errorf("Floor(-7/2, 1): %x, %v, %v", string(m), exact, f)
	}
	if m, exact, f := Floor(Whole(4), 2); m != "\x01" || !exact || f != api.OK {
		t.Errorf("Floor(4, 2): %x, %v, %v", string(m), exact, f)
	}
}

// must panics at an error: a law held against a wrong number would tell nothing.
func must(x api.Exact, e api.Errno) api.Exact {
	if e != api.OK {
		panic(e.Error())
	}
	return x
}

// TestField: P6.7; the laws of sums, products and quotients, by the package's own answers alone.
func TestField(t *testing.T) {
	s := newSource()
	one, zero := Whole(1), Whole(0)
	for range 4000 {
		x, y, z := s.exact(90), s.exact(90), s.exact(90)
		if must(Add(x, y)) != must(Add(y, x)) || must(Mul(x, y)) != must(Mul(y, x)) {
			t.Fatalf("the other way round: %s, %s", short(x), short(y))
		}
		if must(Add(must(Add(x, y)), z)) != must(Add(x, must(Add(y, z)))) || must(Mul(must(Mul(x, y)), z)) != must(Mul(x, must(Mul(y, z)))) {
			t.Fatalf("in whatever bracket: %s, %s, %s", short(x), short(y), short(z))
		}
		if must(Mul(x, must(Add(y, z)))) != must(Add(must(Mul(x, y)), must(Mul(x, z)))) {
			t.Fatalf("a product of a sum: %s, %s, %s", short(x), short(y), short(z))
		}
		if must(Add(x, zero)) != x || must(Mul(x, one)) != x || must(Mul(x, zero)) != zero || must(Add(x, Neg(x))) != zero || must(Sub(x, y)) != must(Add(x, Neg(y))) {
			t.Fatalf("0 and 1: %s, %s", short(x), short(y))
		}
		if y != zero && (must(Mul(must(Quo(x, y)), y)) != x || must(Quo(y, y)) != one) {
			t.Fatalf("a quotient, and back: %s, %s", short(x), short(y))
		}
	}
}

// TestOrder: P6.7; Cmp is an order that sums keep, and is 0 just if both are the same.
func TestOrder(t *testing.T) {
	s := newSource()
	compare := func(x, y api.Exact) int {
		order, e := Cmp(x, y)
		if e != api.OK {
			t.Fatalf("Cmp(%s, %s): %v", short(x), short(y), e)
		}
		return order
	}
	for range 6000 {
		x, y, z := s.exact(20), s.exact(20), s.exact(20)
		if compare(x, y) != -compare(y, x) || (compare(x, y) == 0) != (x == y) || compare(x, x) != 0 {
			t.Fatalf("%s, %s", short(x), short(y))
		}
		if compare(x, y) <= 0 && compare(y, z) <= 0 && compare(x, z) > 0 {
			t.Fatalf("%s, %s, %s", short(x), short(y), short(z))
		}
		if compare(x, y) != compare(must(Add(x, z)), must(Add(y, z))) || compare(x, y) != Sign(must(Sub(x, y))) {
			t.Fatalf("and a sum: %s, %s, %s", short(x), short(y), short(z))
		}
	}
}

// TestFloorTopLaws: P6.7; Floor times 2^e is at most |x|, one more is above; Top of a product is the sum of both, or one more.
func TestFloorTopLaws(t *testing.T) {
	s := newSource()
	for range 6000 {
		x, y := s.exact(120), s.exact(120)
		e := s.below(300) - 150
		m, exact, fault := Floor(x, e)
		low := must(Make(false, must2(m, fault), "\x01", e))
		high := must(Add(low, must(Scale(Whole(1), e))))
		below, _ := Cmp(low, Abs(x))
		above, _ := Cmp(high, Abs(x))
		if below > 0 || above <= 0 || exact != (low == Abs(x)) {
			t.Fatalf("Floor(%s, %d): %s, %v", short(x), e, shortNat(m), exact)
		}
		if x == one0 || y == one0 {
			continue
		}
		a, _ := Top(x)
		b, _ := Top(y)
		if c, f := Top(must(Mul(x, y))); f != api.OK || c != a+b && c != a+b+1 {
			t.Fatalf("Top of %s times %s: %d, %d, %d", short(x), short(y), a, b, c)
		}
	}
}

func must2(m api.Nat, e api.Errno) api.Nat {
	if e != api.OK {
		panic(e.Error())
	}
	return m
}

// TestSame: P0.1; what a call answers hangs on its arguments alone, and these are as they were.
func TestSame(t *testing.T) {
	x, y := exactOf(true, 7, 9, 3), exactOf(false, 3, 5, -2)
	for range 3 {
		if must(Add(x, y)) != must(Add(x, y)) || must(Scale(x, 3)) != exactOf(true, 7, 9, 6) || Neg(x) != exactOf(false, 7, 9, 3) || x != exactOf(true, 7, 9, 3) || y != exactOf(false, 3, 5, -2) {
			t.Errorf("an argument, or an answer, is another")
		}
	}
}
