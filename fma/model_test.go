package fma

import (
	"fmt"
	"math/big"

	"abacus/api"
)

// layout is the document's table of the formats, so that what is expected hangs on no layer of the program.
type layout struct {
	form api.Form
	w, p int
	emax int
}

var layouts = []layout{
	{api.Half, 16, 11, 15},
	{api.Single, 32, 24, 127},
	{api.Double, 64, 53, 1023},
	{api.Quad, 128, 113, 16383},
}

var modes = []api.Mode{api.NearEven, api.ToZero, api.Down, api.Up, api.NearAway}

var signs = []bool{false, true}

func (l layout) emin() int { return 1 - l.emax }

// source is xorshift: the same numbers each time.
type source uint64

func (s *source) next() uint64 {
	x := uint64(*s)
	x ^= x << 13
	x ^= x >> 7
	x ^= x << 17
	*s = source(x)
	return x
}

func (s *source) below(n int) int { return int(s.next() >> 24 % uint64(n)) }

// bits is a number of at most n bits.
func (s *source) bits(n int) *big.Int {
	x := new(big.Int)
	for range n/64 + 1 {
		x.Lsh(x, 64).Add(x, new(big.Int).SetUint64(s.next()))
	}
	return x.Mod(x, power(n))
}

func power(n int) *big.Int { return new(big.Int).Lsh(big.NewInt(1), uint(n)) }

func small(x int64) *big.Int { return big.NewInt(x) }

func beside(a *big.Int, x int64) *big.Int { return new(big.Int).Add(a, big.NewInt(x)) }

func raise(a *big.Int, n int) *big.Int { return new(big.Int).Lsh(a, uint(n)) }

// number is n times 2^e; n has a sign.
type number struct {
	n *big.Int
	e int
}

// times is the exact product.
func (x number) times(y number) number { return number{new(big.Int).Mul(x.n, y.n), x.e + y.e} }

// plus is the exact sum.
func (x number) plus(y number) number {
	if x.e < y.e {
		x, y = y, x
	}
	n := raise(x.n, x.e-y.e)
	return number{n.Add(n, y.n), y.e}
}

// cmp is -1, 0, 1, as x's magnitude is below n times 2^e, is that, is above. The highest bits' places come first, so that far numbers need no long shifts.
func (x number) cmp(n *big.Int, e int) int {
	if d := x.n.BitLen() + x.e - n.BitLen() - e; n.Sign() == 0 || d > 0 {
		return 1
	} else if d < 0 {
		return -1
	}
	if x.e > e {
		return raise(x.n, x.e-e).CmpAbs(n)
	}
	return x.n.CmpAbs(raise(n, e-x.e))
}

// value is the magnitude of the encoding i without a sign; of the infinity it is 2^(emax+1).
func (l layout) value(i *big.Int) (n *big.Int, e int) {
	field := int(new(big.Int).Rsh(i, uint(l.p-1)).Int64())
	fraction := new(big.Int).Mod(i, power(l.p-1))
	if field == 0 {
		return fraction, l.emin() - l.p + 1
	}
	return fraction.Add(fraction, power(l.p-1)), field - l.emax - l.p + 1
}

// inf is the infinity's encoding: all ones in the field.
func (l layout) inf() *big.Int { return raise(beside(power(l.w-l.p), -1), l.p-1) }

// nan is the canonical NaN.
func (l layout) nan() api.Bits { return l.bits(false, new(big.Int).Add(l.inf(), power(l.p-2))) }

func (l layout) bits(neg bool, i *big.Int) api.Bits {
	n := new(big.Int).Set(i)
	if neg {
		n.Add(n, power(l.w-1))
	}
	low := new(big.Int).Mod(n, power(64))
	return api.Bits{Hi: n.Rsh(n, 64).Uint64(), Lo: low.Uint64()}
}

// split is the sign of an encoding, and it without the sign.
func (l layout) split(b api.Bits) (neg bool, i *big.Int) {
	i = new(big.Int).SetUint64(b.Hi)
	i.Lsh(i, 64).Add(i, new(big.Int).SetUint64(b.Lo))
	neg = i.Bit(l.w-1) == 1
	return neg, i.Mod(i, power(l.w-1))
}

// number is what a finite encoding is.
func (l layout) number(b api.Bits) number {
	neg, i := l.split(b)
	n, e := l.value(i)
	if neg {
		n.Neg(n)
	}
	return number{n, e}
}

// search is the greatest encoding whose magnitude is not above x's, up to the infinity's.
func (l layout) search(x number) *big.Int {
	low, high := new(big.Int), beside(l.inf(), 1)
	for {
		middle := new(big.Int).Add(low, high)
		middle.Rsh(middle, 1)
		if middle.Cmp(low) == 0 {
			return low
		}
		if x.cmp(l.value(middle)) >= 0 {
			low = middle
		} else {
			high = middle
		}
	}
}

// goesUp is the document's words of the modes, of a number between two neighbours.
func goesUp(m api.Mode, neg, odd bool, half int) bool {
	switch m {
	case api.ToZero:
		return false
	case api.Down:
		return neg
	case api.Up:
		return !neg
	case api.NearEven:
		return half > 0 || half == 0 && odd
	}
	return half >= 0
}

// answer is what the calls answer.
type answer struct {
	b     api.Bits
	flags api.Flags
	e     api.Errno
}

func of(b api.Bits, flags api.Flags, e api.Errno) answer { return answer{b, flags, e} }

func (a answer) String() string {
	return fmt.Sprintf("%016x%016x, flags %d, %v", a.b.Hi, a.b.Lo, a.flags, a.e)
}

// tiny: below 2^emin, and not rounded to it where the step is that of the numbers just below it.
func (l layout) tiny(m api.Mode, x number) bool {
	if x.cmp(small(1), l.emin()) >= 0 {
		return false
	}
	last := beside(power(l.p), -1)
	if x.cmp(last, l.emin()-l.p) <= 0 {
		return true
	}
	half := x.cmp(beside(raise(last, 1), 1), l.emin()-l.p-1)
	return !goesUp(m, x.n.Sign() < 0, true, half)
}

// spot is where a number that is not 0 stands among those of a format: low is the encoding at its magnitude or below it.
type spot struct {
	l    layout
	x    number
	low  *big.Int
	is   bool
	half int
}

func (l layout) spot(x number) spot {
	low := l.search(x)
	n, e := l.value(low)
	return spot{l, x, low, x.cmp(n, e) == 0, x.cmp(beside(raise(n, 1), 1), e-1)}
}

func (s spot) rounded(m api.Mode) answer {
	r, inf, neg := s.low, s.l.inf(), s.x.n.Sign() < 0
	if !s.is && goesUp(m, neg, r.Bit(0) == 1, s.half) {
		r = beside(r, 1)
	}
	switch {
	case r.Cmp(inf) >= 0 && (m == api.ToZero || m == api.Down && !neg || m == api.Up && neg):
		return answer{b: s.l.bits(neg, beside(inf, -1)), flags: api.Overflow + api.Inexact}
	case r.Cmp(inf) >= 0:
		return answer{b: s.l.bits(neg, inf), flags: api.Overflow + api.Inexact}
	case s.is:
		return answer{b: s.l.bits(neg, r)}
	case s.l.tiny(m, s.x):
		return answer{b: s.l.bits(neg, r), flags: api.Underflow + api.Inexact}
	}
	return answer{b: s.l.bits(neg, r), flags: api.Inexact}
}

// turned is the encoding of the other sign.
func (l layout) turned(b api.Bits) api.Bits {
	neg, i := l.split(b)
	return l.bits(!neg, i)
}

// zeros are what stands for a sum of 0 whose parts have unlike signs.
func (l layout) zeros() (list [5]answer) {
	list[api.Down].b = l.bits(true, small(0))
	return list
}

func all[T any](x T) [5]T { return [5]T{x, x, x, x, x} }

// wants are a times b plus c by each mode, by the chapter's words in their order.
func (l layout) wants(a, b, c api.Bits) [5]answer {
	aNeg, i := l.split(a)
	bNeg, k := l.split(b)
	cNeg, n := l.split(c)
	inf, quiet, neg := l.inf(), new(big.Int).Add(l.inf(), power(l.p-2)), aNeg != bNeg
	signaling := func(x *big.Int) bool { return x.Cmp(inf) > 0 && x.Cmp(quiet) < 0 }
	endless := i.Cmp(inf) == 0 || k.Cmp(inf) == 0
	naught := i.Sign() == 0 || k.Sign() == 0
	switch {
	case endless && naught:
		return all(answer{b: l.nan(), flags: api.Invalid})
	case signaling(i) || signaling(k) || signaling(n):
		return all(answer{b: l.nan(), flags: api.Invalid})
	case i.Cmp(inf) > 0 || k.Cmp(inf) > 0 || n.Cmp(inf) > 0:
		return all(answer{b: l.nan()})
	case endless && n.Cmp(inf) == 0 && cNeg != neg:
		return all(answer{b: l.nan(), flags: api.Invalid})
	case endless:
		return all(answer{b: l.bits(neg, inf)})
	case n.Cmp(inf) == 0:
		return all(answer{b: c})
	case naught && n.Sign() == 0 && neg == cNeg:
		return all(answer{b: c})
	}
	return l.sums(l.number(a).times(l.number(b)).plus(l.number(c)))
}

// sums are an exact number rounded by each mode; 0 is one that came of unlike signs.
func (l layout) sums(x number) (list [5]answer) {
	if x.n.Sign() == 0 {
		return l.zeros()
	}
	s := l.spot(x)
	for _, m := range modes {
		list[m] = s.rounded(m)
	}
	return list
}

// edges are encodings at the edges of a format, of both signs: zeros, subnormal and normal numbers at their ends, about 1, infinities, NaNs of both kinds at their ends.
func (l layout) edges() []api.Bits {
	var list []api.Bits
	places := []*big.Int{small(2), power(l.p - 2), power(l.p - 1), power(l.p), l.one(), beside(l.inf(), -1), raise(small(int64(l.emax+l.p-1)), l.p-1), raise(small(int64(l.emax-l.p)), l.p-1)}
	for _, i := range places {
		for d := range int64(5) {
			list = append(list, l.both(beside(i, d-2))...)
		}
	}
	list = append(list, l.both(new(big.Int).Add(l.inf(), power(l.p-2)))...)
	list = append(list, l.both(beside(new(big.Int).Add(l.inf(), power(l.p-2)), 1))...)
	list = append(list, l.both(beside(new(big.Int).Add(l.inf(), power(l.p-2)), -1))...)
	return append(list, l.both(beside(power(l.w-1), -1))...)
}

// corners are some of the edges, of each class and both signs, few enough to be taken three at a time.
func (l layout) corners() []api.Bits {
	var list []api.Bits
	quiet := new(big.Int).Add(l.inf(), power(l.p-2))
	for _, i := range []*big.Int{small(0), small(1), beside(power(l.p-1), -1), power(l.p - 1), l.one(), beside(l.one(), 1), beside(l.inf(), -1), l.inf(), beside(quiet, -1), beside(quiet, 1)} {
		list = append(list, l.both(i)...)
	}
	return list
}

// both are the encodings of both signs.
func (l layout) both(i *big.Int) []api.Bits { return []api.Bits{l.bits(false, i), l.bits(true, i)} }

// significands are some of p bits, of which products have long carries, few bits and many.
func (l layout) significands() []*big.Int {
	one := power(l.p - 1)
	all := beside(power(l.p), -1)
	striped := new(big.Int).Div(power(l.p+1), small(3))
	root := new(big.Int).Sqrt(power(2*l.p - 1)) // its square is right below a power of two
	return []*big.Int{one, beside(one, 1), beside(one, 2), beside(one, 3), all, beside(all, -1), beside(all, -2), striped, new(big.Int).Add(one, power(l.p-2)), root, beside(root, 1), new(big.Int).Add(one, power(l.p/2))}
}

// one is the encoding of 1, without a sign.
func (l layout) one() *big.Int { return raise(small(int64(l.emax)), l.p-1) }

// at is the encoding of a significand of p bits, its highest one being at the place top, which is a normal number's.
func (l layout) at(neg bool, sig *big.Int, top int) api.Bits {
	i := raise(small(int64(top+l.emax-1)), l.p-1)
	return l.bits(neg, i.Add(i, sig))
}

// any is some encoding; such as have few bits, and such as are near the format's ends, are among them.
func (l layout) any(s *source) api.Bits {
	i := s.bits(l.w - 1)
	switch s.below(6) {
	case 0:
		i = s.bits(1 + s.below(l.w-1))
	case 1:
		i = new(big.Int).Sub(l.inf(), s.bits(1+s.below(l.p+2)))
	case 2:
		i = new(big.Int).Add(raise(s.bits(l.w-l.p), l.p-1), raise(s.bits(3), s.below(l.p-1)))
	}
	return l.bits(s.below(2) == 0, i.Mod(i, power(l.w-1)))
}

// rounded is a magnitude as an encoding without a sign, by NearEven; the greatest number's, if it is beyond.
func (l layout) rounded(x number) *big.Int {
	if x.n.Sign() == 0 {
		return small(0)
	}
	_, i := l.split(l.spot(x).rounded(api.NearEven).b)
	if i.Cmp(l.inf()) == 0 {
		return beside(i, -1)
	}
	return i
}

// finite is some number that is not 0, of a magnitude from 2^low to 2^high, but for what the format has not.
func (l layout) finite(s *source, low, high int) api.Bits {
	low, high = max(low, l.emin()), min(high, l.emax)
	sig := s.bits(l.p - 1)
	if s.below(3) == 0 {
		sig = raise(s.bits(3), s.below(l.p-3))
	}
	return l.at(s.below(2) == 0, sig.Add(sig, power(l.p-1)), low+s.below(max(high-low, 0)+1))
}

// partner is the greatest encoding without a sign, of which the product with a is at most n times 2^e in magnitude; the greatest number's, if that is beyond it.
func (l layout) partner(a api.Bits, n *big.Int, e int) *big.Int {
	const digits = 300
	x := l.number(a)
	quo := new(big.Int).Div(raise(n, digits), x.n)
	i := l.search(number{quo, e - digits - x.e})
	if i.Cmp(l.inf()) == 0 {
		return beside(i, -1)
	}
	return i
}
