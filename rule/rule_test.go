package rule

import (
	"fmt"
	"math/big"
	"strings"
	"testing"

	"abacus/api"
	"abacus/exact"
	"abacus/kind"
	"abacus/shape"
)

// layout is the document's table of the formats, so that what is expected hangs on no layer of the program.
type layout struct {
	form api.Form
	w, p int
	emax int
}

var layouts = []layout{
	{api.Half, 16, 11, 15},
	{api.Single, 32, 24, 127},
	{api.Double, 64, 53, 1023},
	{api.Quad, 128, 113, 16383},
}

var modes = []api.Mode{api.NearEven, api.ToZero, api.Down, api.Up, api.NearAway}

func (l layout) emin() int { return 1 - l.emax }

// source is xorshift: the same numbers each time.
type source uint64

func (s *source) next() uint64 {
	x := uint64(*s)
	x ^= x << 13
	x ^= x >> 7
	x ^= x << 17
	*s = source(x)
	return x
}

func (s *source) below(n int) int { return int(s.next() >> 24 % uint64(n)) }

// bits is a number of at most n bits.
func (s *source) bits(n int) *big.Int {
	x := new(big.Int)
	for range n/64 + 1 {
		x.Lsh(x, 64).Add(x, new(big.Int).SetUint64(s.next()))
	}
	return x.Mod(x, power(n))
}

func power(n int) *big.Int { return new(big.Int).Lsh(big.NewInt(1), uint(n)) }

func small(x int64) *big.Int { return big.NewInt(x) }

func add(a *big.Int, x int64) *big.Int { return new(big.Int).Add(a, big.NewInt(x)) }

func mul(a, b *big.Int) *big.Int { return new(big.Int).Mul(a, b) }

// number0 is num over den times 2^exp, below 0 if neg, in no certain form.
type number0 struct {
	neg      bool
	num, den *big.Int
	exp      int
}

func at(num *big.Int, exp int) number0 { return number0{false, num, small(1), exp} }

func (x number0) String() string {
	sign := ""
	if x.neg {
		sign = "-"
	}
	if x.num.BitLen() > 300 || x.den.BitLen() > 300 {
		return fmt.Sprintf("%s(%d bits)/(%d bits)p%d", sign, x.num.BitLen(), x.den.BitLen(), x.exp)
	}
	return fmt.Sprintf("%s%x/%xp%d", sign, x.num, x.den, x.exp)
}

// exact is x in its one form.
func (x number0) exact() api.Exact {
	if x.num.Sign() == 0 {
		return api.Exact{Den: "\x01"}
	}
	common := new(big.Int).GCD(nil, nil, x.num, x.den)
	num, den := new(big.Int).Quo(x.num, common), new(big.Int).Quo(x.den, common)
	exp := x.exp + int(num.TrailingZeroBits()) - int(den.TrailingZeroBits())
	num.Rsh(num, num.TrailingZeroBits())
	den.Rsh(den, den.TrailingZeroBits())
	return api.Exact{Neg: x.neg, Num: api.Nat(num.Bytes()), Den: api.Nat(den.Bytes()), Exp: exp}
}

func (x number0) signed(neg bool) number0 { return number0{neg, x.num, x.den, x.exp} }

func (x number0) squared() number0 {
	return number0{false, mul(x.num, x.num), mul(x.den, x.den), 2 * x.exp}
}

// target is what is rounded: x, or its root. All that is expected comes from comparisons with it.
type target struct {
	x    number0
	root bool
}

// cmp is -1, 0, 1, as its magnitude is below n times 2^e, is that, is above.
func (t target) cmp(n *big.Int, e int) int {
	if t.root {
		n, e = mul(n, n), 2*e
	}
	left, right := t.x.num, mul(n, t.x.den)
	if t.x.exp > e {
		left = new(big.Int).Lsh(left, uint(t.x.exp-e))
	} else {
		right.Lsh(right, uint(e-t.x.exp))
	}
	return left.Cmp(right)
}

// value is the magnitude of the encoding i without a sign, as n times 2^e; of the infinity it is 2^(emax+1).
func (l layout) value(i *big.Int) (n *big.Int, e int) {
	field := int(new(big.Int).Rsh(i, uint(l.p-1)).Int64())
	fraction := new(big.Int).Mod(i, power(l.p-1))
	if field == 0 {
		return fraction, l.emin() - l.p + 1
	}
	return fraction.Add(fraction, power(l.p-1)), field - l.emax - l.p + 1
}

// inf is the infinity's encoding: all ones in the field.
func (l layout) inf() *big.Int {
	return new(big.Int).Lsh(add(power(l.w-l.p), -1), uint(l.p-1))
}

func (l layout) bits(neg bool, i *big.Int) api.Bits {
	n := new(big.Int).Set(i)
	if neg {
		n.Add(n, power(l.w-1))
	}
	low := new(big.Int).Mod(n, power(64))
	return api.Bits{Hi: n.Rsh(n, 64).Uint64(), Lo: low.Uint64()}
}

// search is the greatest encoding not above the target in magnitude, up to the infinity's.
func (l layout) search(t target) *big.Int {
	low, high := new(big.Int), add(l.inf(), 1)
	if t.cmp(l.value(small(1))) < 0 {
		return low
	}
	if t.cmp(l.value(l.inf())) >= 0 {
		return l.inf()
	}
	for {
		middle := new(big.Int).Add(low, high)
		middle.Rsh(middle, 1)
		if middle.Cmp(low) == 0 {
			return low
		}
		if t.cmp(l.value(middle)) >= 0 {
			low = middle
		} else {
			high = middle
		}
	}
}

// goesUp tells whether of two neighbours the one of the greater magnitude is taken, of a target between both: half is how it stands to the middle, odd is whether the lesser one is an odd multiple.
func goesUp(m api.Mode, neg, odd bool, half int) bool {
	switch m {
	case api.ToZero:
		return false
	case api.Down:
		return neg
	case api.Up:
		return !neg
	case api.NearEven:
		return half > 0 || half == 0 && odd
	}
	return half >= 0
}

// tiny: below 2^emin, and not rounded to it where the step is that of the numbers just below it.
func (l layout) tiny(m api.Mode, t target) bool {
	if t.cmp(small(1), l.emin()) >= 0 {
		return false
	}
	last := add(power(l.p), -1)
	if t.cmp(last, l.emin()-l.p) <= 0 {
		return true
	}
	half := t.cmp(add(mul(last, small(2)), 1), l.emin()-l.p-1)
	return !goesUp(m, t.x.neg, true, half)
}

// answer is what Round and Root answer.
type answer struct {
	b     api.Bits
	flags api.Flags
	e     api.Errno
}

func of(b api.Bits, flags api.Flags, e api.Errno) answer { return answer{b, flags, e} }

func (a answer) String() string {
	return fmt.Sprintf("%016x%016x, flags %d, %v", a.b.Hi, a.b.Lo, a.flags, a.e)
}

// place0 is where a target stands among the numbers of a format.
type place0 struct {
	l    layout
	t    target
	low  *big.Int
	is   bool // it is the number low
	half int
}

func (l layout) place(t target) place0 {
	low := l.search(t)
	n, e := l.value(low)
	return place0{l, t, low, t.cmp(n, e) == 0, t.cmp(add(mul(n, small(2)), 1), e-1)}
}

// want is what is delivered by a mode.
func (p place0) want(m api.Mode) answer {
	l, neg := p.l, p.t.x.neg
	r := p.low
	if !p.is && r.Cmp(l.inf()) < 0 && goesUp(m, neg, r.Bit(0) == 1, p.half) {
		r = add(r, 1)
	}
	switch {
	case r.Cmp(l.inf()) < 0 && p.is:
		return answer{b: l.bits(neg, r)}
	case r.Cmp(l.inf()) < 0 && l.tiny(m, p.t):
		return answer{b: l.bits(neg, r), flags: api.Inexact + api.Underflow}
	case r.Cmp(l.inf()) < 0:
		return answer{b: l.bits(neg, r), flags: api.Inexact}
	case m == api.ToZero, m == api.Down && !neg, m == api.Up && neg:
		r = add(l.inf(), -1)
	}
	return answer{b: l.bits(neg, r), flags: api.Inexact + api.Overflow}
}

// near is what Near answers; zeros are told without a sign.
func (p place0) near() (low, high api.Bits) {
	i, j := p.low, p.low
	switch {
	case p.low.Cmp(p.l.inf()) == 0:
		i = add(j, -1)
	case !p.is:
		j = add(i, 1)
	}
	neg := p.t.x.neg
	low, high = p.l.bits(neg, i), p.l.bits(neg, j)
	if i.Sign() == 0 {
		low = p.l.bits(false, i)
	}
	if neg {
		return high, low
	}
	return low, high
}

// checkAll holds all calls, of a number that is not 0, against what is expected.
func (l layout) checkAll(t *testing.T, x number0) {
	t.Helper()
	l.checkRound(t, x)
	if !x.neg {
		l.checkRoot(t, x)
	}
	low, high, e := Near(l.form, x.exact())
	wantLow, wantHigh := l.place(target{x: x}).near()
	if low != wantLow || high != wantHigh || e != api.OK {
		t.Errorf("Near(%d, %v): %x, %x, %v; wanted %x, %x", l.form, x, low, high, e, wantLow, wantHigh)
	}
	for _, m := range modes {
		got, e := Tiny(l.form, m, x.exact())
		if want := l.tiny(m, target{x: x}); got != want || e != api.OK {
			t.Errorf("Tiny(%d, %d, %v): %v, %v; wanted %v", l.form, m, x, got, e, want)
		}
	}
}

func (l layout) checkRound(t *testing.T, x number0) {
	t.Helper()
	p := l.place(target{x: x})
	for _, m := range modes {
		if got, want := of(Round(l.form, m, x.exact())), p.want(m); got != want {
			t.Errorf("Round(%d, %d, %v): %v; wanted %v", l.form, m, x, got, want)
		}
	}
}

func (l layout) checkRoot(t *testing.T, x number0) {
	t.Helper()
	p := l.place(target{x, true})
	for _, m := range modes {
		if got, want := of(Root(l.form, m, x.exact())), p.want(m); got != want {
			t.Errorf("Root(%d, %d, %v): %v; wanted %v", l.form, m, x, got, want)
		}
	}
}

// around is numbers at n times 2^e and right beside it, and by halves and thirds of the way to the next one.
func around(n *big.Int, e int) []number0 {
	twice, thrice, fine := mul(n, small(2)), mul(n, small(3)), mul(n, power(60))
	return []number0{
		at(n, e),
		at(add(twice, 1), e-1),
		at(add(fine, 1), e-60),
		at(add(fine, -1), e-60),
		at(add(fine, 1<<59+1), e-60),
		at(add(fine, 1<<59-1), e-60),
		{false, add(thrice, 1), small(3), e},
		{false, add(thrice, 2), small(3), e},
		{false, add(mul(thrice, power(200)), 1), small(3), e - 200},
	}
}

// indices are encodings at the edges of a format, and some others.
func (l layout) indices() []*big.Int {
	var list []*big.Int
	edges := []*big.Int{small(2), power(l.p - 2), power(l.p - 1), power(l.p), add(l.inf(), -2), new(big.Int).Lsh(small(int64(l.emax)), uint(l.p-1))}
	for _, i := range edges {
		for d := range int64(4) {
			list = append(list, add(i, d-2))
		}
	}
	s := source(l.w)
	for range 20 {
		list = append(list, s.bits(l.w-2), s.bits(l.p), s.bits(1+s.below(l.w-2)))
	}
	return list
}

// numbers are numbers above 0 at the edges of a format, and some others.
func (l layout) numbers() []number0 {
	var list []number0
	for _, i := range l.indices() {
		n, e := l.value(i)
		if n.Sign() > 0 {
			list = append(list, around(n, e)...)
		}
	}
	// Where it is told whether a number is tiny: one bit below the least normal number's step, and one more for halves.
	for d := range int64(5) {
		list = append(list, around(add(power(l.p), d-3), l.emin()-l.p)...)
		list = append(list, around(add(power(l.p+1), d-3), l.emin()-l.p-1)...)
	}
	// Around halves and quarters of the least number, and beyond the greatest.
	for n := range int64(9) {
		list = append(list, around(small(n+1), l.emin()-l.p-2)...)
		list = append(list, around(small(n+1), l.emax)...)
	}
	return list
}

// P9.1 to P9.4: all calls, at the edges of each format.
func TestAgainstDefinition(t *testing.T) {
	t.Parallel()
	for _, l := range layouts {
		for i, x := range l.numbers() {
			l.checkAll(t, x.signed(i%2 == 0))
			if i%3 == 0 {
				l.checkAll(t, x.signed(i%2 == 1))
			}
		}
	}
}

// P9.1: from all encodings of Half, some way to the next one.
func TestRoundAllHalf(t *testing.T) {
	t.Parallel()
	l := layouts[0]
	for i := range l.inf().Int64() {
		n, e := l.value(small(i))
		ways := around(n, e)
		x := ways[i%int64(len(ways))]
		if x.num.Sign() > 0 {
			l.checkRound(t, x.signed(i/9%2 == 0))
		}
	}
}

// P9.2: squares of numbers of the formats and of halves between them, and right beside them.
func TestRootOfSquares(t *testing.T) {
	t.Parallel()
	for _, l := range layouts {
		for _, x := range l.numbers() {
			s := x.squared()
			fine := mul(s.num, power(300))
			l.checkRoot(t, s)
			l.checkRoot(t, number0{false, add(fine, 1), s.den, s.exp - 300})
			l.checkRoot(t, number0{false, add(fine, -1), s.den, s.exp - 300})
		}
	}
}

// P9.1 to P9.4: quotients of many lengths, at Exps all over the reach of the formats and beyond it.
func TestQuotients(t *testing.T) {
	t.Parallel()
	s := source(9)
	for i := range 1500 {
		l := layouts[i%4]
		x := number0{i/4%2 == 0, add(s.bits(1+s.below(400)), 1), add(s.bits(1+s.below(400)), 1), s.below(2*l.emax+200) - l.emax - 100}
		l.checkAll(t, x)
		l.checkRoot(t, number0{false, x.num, x.den, 2 * x.exp})
	}
}

// P9.1 to P9.4: the greatest and the least Exps that may be.
func TestFarExps(t *testing.T) {
	t.Parallel()
	long := add(power(8*api.MaxPart), -1)
	for _, l := range layouts {
		for _, n := range []*big.Int{small(1), small(3), small(0x12345), long} {
			for _, exp := range []int{api.MaxExp, api.MaxExp - 1, -api.MaxExp, 1 - api.MaxExp} {
				l.checkAll(t, at(n, exp))
				l.checkAll(t, number0{true, n, small(7), exp})
				l.checkAll(t, number0{false, small(1), n, exp})
			}
		}
	}
}

// ErrLong: at most MaxPart bytes of Num, and of Den; at one more it is refused.
func TestLong(t *testing.T) {
	most := add(power(8*api.MaxPart), -1)
	more := add(power(8*api.MaxPart), 1)
	for i, l := range layouts {
		l.checkAll(t, at(most, l.emin()-8*api.MaxPart-2))
		l.checkAll(t, at(most, -8*api.MaxPart))
		l.checkAll(t, number0{true, small(1), most, 8*api.MaxPart - l.emax})
		l.checkAll(t, number0{true, small(3), most, 8*api.MaxPart + 2})
		for _, x := range []number0{at(more, -8*api.MaxPart), {false, small(1), more, 0}, {false, small(3), add(power(8*api.MaxNat), -5), 0}, {i%2 == 0, add(more, 2), more, 3}} {
			l.wantFault(t, modes[i], x.exact(), api.ErrLong)
		}
	}
	// Both as long as may be, and nearly the same.
	x := number0{false, add(most, -2), most, 0}
	layouts[3].checkRound(t, x)
	layouts[3].checkRoot(t, number0{false, most, add(most, -4), 1})
}

// wantFault holds all calls against one error, which Root answers of what is below 0 only if that is ErrArg.
func (l layout) wantFault(t *testing.T, m api.Mode, x api.Exact, want api.Errno) {
	t.Helper()
	if got := of(Round(l.form, m, x)); got != (answer{e: want}) {
		t.Errorf("Round(%d, %d, ..): %v; wanted %v", l.form, m, got, want)
	}
	wantRoot := want
	if x.Neg {
		wantRoot = api.ErrArg
	}
	if got := of(Root(l.form, m, x)); got != (answer{e: wantRoot}) {
		t.Errorf("Root(%d, %d, ..): %v; wanted %v", l.form, m, got, wantRoot)
	}
	if got, e := Tiny(l.form, m, x); got || e != want {
		t.Errorf("Tiny(%d, %d, ..): %v, %v; wanted %v", l.form, m, got, e, want)
	}
	l.wantNoNear(t, x, want)
}

func (l layout) wantNoNear(t *testing.T, x api.Exact, want api.Errno) {
	t.Helper()
	if low, high, e := Near(l.form, x); low != (api.Bits{}) || high != (api.Bits{}) || e != want {
		t.Errorf("Near(%d, ..): %x, %x, %v; wanted %v", l.form, low, high, e, want)
	}
}

// ErrArg: what is no format, whatever the number is; it comes ahead of ErrLong.
func TestNoFormat(t *testing.T) {
	long := at(add(power(8*api.MaxPart), 1), 0).exact()
	tiny := at(small(1), -40000).exact()
	for f := 4; f < 256; f++ {
		l := layout{form: api.Form(f)}
		for _, x := range []api.Exact{at(small(0), 0).exact(), at(small(1), 0).exact(), tiny, long} {
			l.wantFault(t, modes[f%5], x, api.ErrArg)
		}
	}
}

// ErrArg: what is no mode, Dyn too; it comes ahead of ErrLong.
func TestNoMode(t *testing.T) {
	long := at(add(power(8*api.MaxPart), 1), 0).exact()
	for m := 5; m < 256; m++ {
		for _, x := range []api.Exact{at(small(0), 0).exact(), at(small(1), -40000).exact(), long} {
			f, m := api.Form(m%4), api.Mode(m)
			if got := of(Round(f, m, x)); got != (answer{e: api.ErrArg}) {
				t.Errorf("Round by the mode %d: %v", m, got)
			}
			if got := of(Root(f, m, x)); got != (answer{e: api.ErrArg}) {
				t.Errorf("Root by the mode %d: %v", m, got)
			}
			if got, e := Tiny(f, m, x); got || e != api.ErrArg {
				t.Errorf("Tiny by the mode %d: %v, %v", m, got, e)
			}
		}
	}
}

// ErrArg: numbers that may not be; it comes ahead of ErrLong.
func TestNoNumber(t *testing.T) {
	long := api.Nat(strings.Repeat("\x01", api.MaxPart+1))
	wrong := []api.Exact{
		{},
		{Neg: true, Den: "\x01"},
		{Den: "\x01", Exp: 1},
		{Den: "\x03"},
		{Num: "\x01"},
		{Num: "\x02", Den: "\x01"},
		{Num: "\x01", Den: "\x02"},
		{Num: "\x03", Den: "\x03"},
		{Num: "\x09", Den: "\x0f", Neg: true},
		{Num: "\x00\x01", Den: "\x01"},
		{Num: "\x01", Den: "\x00\x01"},
		{Num: "\x01", Den: "\x01", Exp: api.MaxExp + 1},
		{Num: "\x01", Den: "\x01", Exp: -api.MaxExp - 1},
		{Num: "\x01", Den: "\x01", Exp: -1 << 63},
		{Num: "\x01", Den: "\x01", Exp: 1<<63 - 1},
		{Num: long + "\x02", Den: "\x01"},
		{Num: "\x01", Den: long + "\x02", Neg: true},
		{Num: long, Den: long},
		{Num: long, Den: ""},
		{Num: api.Nat(strings.Repeat("\x01", api.MaxNat+1)), Den: "\x01"},
	}
	for _, x := range wrong {
		for _, l := range layouts {
			for _, m := range modes {
				l.wantFault(t, m, x, api.ErrArg)
			}
		}
	}
}

// P9.1 to P9.4: of 0.
func TestZero(t *testing.T) {
	zero := api.Exact{Den: "\x01"}
	for _, l := range layouts {
		for _, m := range modes {
			if got := of(Round(l.form, m, zero)); got != (answer{}) {
				t.Errorf("Round(%d, %d, 0): %v", l.form, m, got)
			}
			if got := of(Root(l.form, m, zero)); got != (answer{}) {
				t.Errorf("Root(%d, %d, 0): %v", l.form, m, got)
			}
			if got, e := Tiny(l.form, m, zero); got || e != api.OK {
				t.Errorf("Tiny(%d, %d, 0): %v, %v", l.form, m, got, e)
			}
		}
		l.wantNoNear(t, zero, api.OK)
	}
}

// P9.2: of what is below 0 there is no root, of the zero there is; ErrArg comes ahead of ErrLong.
func TestRootBelowZero(t *testing.T) {
	for _, l := range layouts {
		for _, m := range modes {
			for _, x := range []number0{at(small(1), 0), at(small(1), -api.MaxExp), {false, small(4), small(9), 2}, at(add(power(8*api.MaxPart), 1), 0)} {
				if got := of(Root(l.form, m, x.signed(true).exact())); got != (answer{e: api.ErrArg}) {
					t.Errorf("Root(%d, %d, -%v): %v", l.form, m, x, got)
				}
			}
		}
	}
}

// The chapter's examples.
func TestExamples(t *testing.T) {
	third := number0{false, small(1), small(3), 0}
	high := at(small(65520), 0)
	half := func(bits uint64, flags api.Flags) answer { return answer{b: api.Bits{Lo: bits}, flags: flags} }
	const inexact, overflow, underflow = api.Inexact, api.Overflow | api.Inexact, api.Underflow | api.Inexact
	list := []struct {
		m    api.Mode
		x    number0
		want answer
	}{
		{api.NearEven, third, half(0x3555, inexact)},
		{api.Up, third, half(0x3556, inexact)},
		{api.NearEven, high, half(0x7c00, overflow)},
		{api.Down, high.signed(true), half(0xfc00, overflow)},
		{api.ToZero, high, half(0x7bff, inexact)},
		{api.NearEven, at(small(1), -25), half(0, underflow)},
		{api.Up, at(small(1), -25), half(1, underflow)},
		{api.NearEven, at(small(3), -26), half(1, underflow)},
		{api.NearEven, at(small(1<<12-1), -26), half(0x400, inexact)},
	}
	for _, c := range list {
		if got := of(Round(api.Half, c.m, c.x.exact())); got != c.want {
			t.Errorf("Round(Half, %d, %v): %v; wanted %v", c.m, c.x, got, c.want)
		}
	}
	if got := of(Root(api.Single, api.NearEven, at(small(2), 0).exact())); got != half(0x3fb504f3, inexact) {
		t.Errorf("Root(2): %v", got)
	}
	if got := of(Root(api.Half, api.Down, at(small(1), -2).exact())); got != half(0x3800, 0) {
		t.Errorf("Root(1/4): %v", got)
	}
	if got := of(Root(api.Half, api.Up, at(small(1), 0).signed(true).exact())); got != (answer{e: api.ErrArg}) {
		t.Errorf("Root(-1): %v", got)
	}
	for _, c := range []struct {
		x         number0
		low, high uint64
	}{{third, 0x3555, 0x3556}, {at(small(70000), 0), 0x7bff, 0x7c00}, {at(small(0), 0), 0, 0}} {
		low, high, e := Near(api.Half, c.x.exact())
		if low != (api.Bits{Lo: c.low}) || high != (api.Bits{Lo: c.high}) || e != api.OK {
			t.Errorf("Near(Half, %v): %x, %x, %v", c.x, low, high, e)
		}
	}
}

// P9.3: the zeros are told without a sign, on both sides of 0; beyond the greatest number it is the infinity that is beside.
func TestNearEdges(t *testing.T) {
	for _, l := range layouts {
		f := l.form
		least, far := at(small(1), l.emin()-l.p), at(small(1), l.emax+1)
		for _, c := range []struct {
			x         number0
			low, high api.Bits
		}{
			{least, shape.Zero(f, false), shape.Least(f, false)},
			{least.signed(true), shape.Least(f, true), shape.Zero(f, false)},
			{far, shape.Greatest(f, false), shape.Inf(f, false)},
			{far.signed(true), shape.Inf(f, true), shape.Greatest(f, true)},
		} {
			if low, high, e := Near(f, c.x.exact()); low != c.low || high != c.high || e != api.OK {
				t.Errorf("Near(%d, %v): %x, %x, %v", f, c.x, low, high, e)
			}
		}
	}
}

// unsigned is b, a zero without its sign.
func unsigned(f api.Form, b api.Bits) api.Bits {
	if b == shape.Zero(f, true) {
		return shape.Zero(f, false)
	}
	return b
}

// P9.5: Near tells x itself, or two neighbours; Round delivers one of them, by the mode's own side.
func TestSides(t *testing.T) {
	t.Parallel()
	for _, l := range layouts {
		f := l.form
		for i, y := range l.numbers() {
			x := y.signed(i%2 == 0).exact()
			low, high, _ := Near(f, x)
			_, is, _ := kind.Of(f, x)
			if is != (low == high) {
				t.Errorf("Near(%d, %v): %x, %x; of the format: %v", f, y, low, high, is)
			}
			if next, _ := kind.Next(f, low); !is && unsigned(f, next) != high {
				t.Errorf("Near(%d, %v): %x, %x; next is %x", f, y, low, high, next)
			}
			nearer := low
			if x.Neg {
				nearer = high
			}
			sides := map[api.Mode]api.Bits{api.Down: low, api.Up: high, api.ToZero: nearer}
			for _, m := range modes {
				b, _, _ := Round(f, m, x)
				b = unsigned(f, b)
				if side, one := sides[m]; b != low && b != high || one && b != side {
					t.Errorf("Round(%d, %d, %v): %x; of %x and %x", f, m, y, b, low, high)
				}
			}
		}
	}
}

// P9.5: a number of the format is delivered as it is, without flags.
func TestRoundOfFormat(t *testing.T) {
	for _, l := range layouts {
		for i, index := range l.indices() {
			b := l.bits(i%2 == 0 && index.Sign() > 0, index)
			x, e := kind.Value(l.form, b)
			if e != api.OK {
				continue
			}
			for _, m := range modes {
				if got := of(Round(l.form, m, x)); got != (answer{b: b}) {
					t.Errorf("Round(%d, %d, value of %x): %v", l.form, m, b, got)
				}
			}
			low, high, _ := Near(l.form, x)
			if low != b || high != b {
				t.Errorf("Near(%d, value of %x): %x, %x", l.form, b, low, high)
			}
		}
	}
}

// P9.5: Underflow and Overflow come with Inexact alone, no other flag comes; the other sign by the mode of the other side.
func TestFlagsAndSigns(t *testing.T) {
	t.Parallel()
	other := map[api.Mode]api.Mode{api.Down: api.Up, api.Up: api.Down, api.ToZero: api.ToZero, api.NearEven: api.NearEven, api.NearAway: api.NearAway}
	for _, l := range layouts {
		for _, y := range l.numbers() {
			x := y.exact()
			for _, m := range modes {
				b, flags, e := Round(l.form, m, x)
				switch flags {
				case 0, api.Inexact, api.Inexact | api.Underflow, api.Inexact | api.Overflow:
				default:
					t.Errorf("Round(%d, %d, %v): flags %d", l.form, m, y, flags)
				}
				if got := of(Round(l.form, other[m], exact.Neg(x))); got != of(kind.Flip(l.form, b), flags, e) {
					t.Errorf("Round(%d, %d, -%v): %v; of the other sign %x", l.form, m, y, got, b)
				}
			}
		}
	}
}

// distance is how far the value of b is from x.
func distance(t *testing.T, f api.Form, b api.Bits, x api.Exact) api.Exact {
	t.Helper()
	v, e := kind.Value(f, b)
	if e != api.OK {
		t.Fatalf("value of %x: %v", b, e)
	}
	d, e := exact.Sub(v, x)
	if e != api.OK {
		t.Fatalf("%x less the number: %v", b, e)
	}
	return exact.Abs(d)
}

func finite(f api.Form, b api.Bits) bool {
	_, e := kind.Value(f, b)
	return e == api.OK
}

// P9.6: no number of the format is nearer than what the nearest modes deliver, where that is finite.
func TestNearest(t *testing.T) {
	t.Parallel()
	for _, l := range layouts {
		f := l.form
		for i, y := range l.numbers() {
			x := y.signed(i%2 == 0).exact()
			low, high, _ := Near(f, x)
			for _, m := range []api.Mode{api.NearEven, api.NearAway} {
				b, _, _ := Round(f, m, x)
				for _, c := range []api.Bits{low, high} {
					if !finite(f, b) || !finite(f, c) {
						continue
					}
					if order, _ := exact.Cmp(distance(t, f, c, x), distance(t, f, b, x)); order < 0 {
						t.Errorf("Round(%d, %d, %v): %x; nearer is %x", f, m, y, b, c)
					}
				}
			}
		}
	}
}

// P9.7: the root of a square is the magnitude, rounded.
func TestRootOfSquareLaw(t *testing.T) {
	t.Parallel()
	for _, l := range layouts {
		for i, y := range l.numbers() {
			x := y.signed(i%2 == 0).exact()
			square, e := exact.Mul(x, x)
			if e != api.OK {
				t.Fatal(e)
			}
			for _, m := range modes {
				got, want := of(Root(l.form, m, square)), of(Round(l.form, m, exact.Abs(x)))
				if got != want {
					t.Errorf("Root(%d, %d, the square of %v): %v; wanted %v", l.form, m, y, got, want)
				}
			}
		}
	}
}

// P9.7: a greater number has no lesser root. Encodings without a sign rise as their numbers do.
func TestRootsRise(t *testing.T) {
	for _, l := range layouts {
		for _, m := range modes {
			n := power(l.p)
			before := api.Bits{}
			for i := range 300 {
				n = add(n, int64(i/20+1))
				b, _, e := Root(l.form, m, at(n, -2*l.p).exact())
				if e != api.OK || b.Hi < before.Hi || b.Hi == before.Hi && b.Lo < before.Lo {
					t.Errorf("Root(%d, %d, %x by 2^%d): %x, %v, below %x", l.form, m, n, 2*l.p, b, e, before)
				}
				before = b
			}
		}
	}
}
