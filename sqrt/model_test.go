package sqrt

import (
	"fmt"
	"math/big"

	"abacus/api"
)

// layout is the document's table of the formats, so that what is expected hangs on no layer of the program.
type layout struct {
	form api.Form
	w, p int
	emax int
}

var layouts = []layout{
	{api.Half, 16, 11, 15},
	{api.Single, 32, 24, 127},
	{api.Double, 64, 53, 1023},
	{api.Quad, 128, 113, 16383},
}

var modes = []api.Mode{api.NearEven, api.ToZero, api.Down, api.Up, api.NearAway}

func (l layout) emin() int { return 1 - l.emax }

// least is the power of two that the least number above 0 is.
func (l layout) least() int { return l.emin() - l.p + 1 }

// source is xorshift: the same numbers each time.
type source uint64

func (s *source) next() uint64 {
	x := uint64(*s)
	x ^= x << 13
	x ^= x >> 7
	x ^= x << 17
	*s = source(x)
	return x
}

func (s *source) below(n int) int { return int(s.next() >> 24 % uint64(n)) }

// bits is a number of at most n bits.
func (s *source) bits(n int) *big.Int {
	x := new(big.Int)
	for range n/64 + 1 {
		x.Lsh(x, 64).Add(x, new(big.Int).SetUint64(s.next()))
	}
	return x.Mod(x, power(n))
}

func power(n int) *big.Int { return new(big.Int).Lsh(big.NewInt(1), uint(n)) }

func small(x int64) *big.Int { return big.NewInt(x) }

func beside(a *big.Int, x int64) *big.Int { return new(big.Int).Add(a, big.NewInt(x)) }

func raise(a *big.Int, n int) *big.Int { return new(big.Int).Lsh(a, uint(n)) }

func squared(a *big.Int) *big.Int { return new(big.Int).Mul(a, a) }

// number is n times 2^e, not below 0.
type number struct {
	n *big.Int
	e int
}

func (x number) squared() number { return number{squared(x.n), 2 * x.e} }

// middle is between x and the number whose n is one more.
func (x number) middle() number { return number{beside(raise(x.n, 1), 1), x.e - 1} }

// cmp is -1, 0, 1, as x is below y, is y, is above it. The highest bits' places come first, so that far numbers need no long shifts.
func (x number) cmp(y number) int {
	if x.n.Sign() == 0 || y.n.Sign() == 0 {
		return x.n.Cmp(y.n)
	}
	if d := x.n.BitLen() + x.e - y.n.BitLen() - y.e; d > 0 {
		return 1
	} else if d < 0 {
		return -1
	}
	if x.e > y.e {
		return raise(x.n, x.e-y.e).Cmp(y.n)
	}
	return x.n.Cmp(raise(y.n, y.e-x.e))
}

// value is the magnitude of the encoding i without a sign; of the infinity it is 2^(emax+1).
func (l layout) value(i *big.Int) number {
	field := int(new(big.Int).Rsh(i, uint(l.p-1)).Int64())
	fraction := new(big.Int).Mod(i, power(l.p-1))
	if field == 0 {
		return number{fraction, l.least()}
	}
	return number{fraction.Add(fraction, power(l.p-1)), field - l.emax - l.p + 1}
}

// inf is the infinity's encoding: all ones in the field.
func (l layout) inf() *big.Int { return raise(beside(power(l.w-l.p), -1), l.p-1) }

// quiet is the encoding of the least quiet NaN without a sign, which is the canonical one.
func (l layout) quiet() *big.Int { return new(big.Int).Add(l.inf(), power(l.p-2)) }

func (l layout) nan() api.Bits { return l.bits(false, l.quiet()) }

func (l layout) bits(neg bool, i *big.Int) api.Bits {
	n := new(big.Int).Set(i)
	if neg {
		n.Add(n, power(l.w-1))
	}
	low := new(big.Int).Mod(n, power(64))
	return api.Bits{Hi: n.Rsh(n, 64).Uint64(), Lo: low.Uint64()}
}

// split is the sign of an encoding, and it without the sign.
func (l layout) split(b api.Bits) (neg bool, i *big.Int) {
	i = new(big.Int).SetUint64(b.Hi)
	i.Lsh(i, 64).Add(i, new(big.Int).SetUint64(b.Lo))
	neg = i.Bit(l.w-1) == 1
	return neg, i.Mod(i, power(l.w-1))
}

// search is the greatest encoding, up to the infinity's, of whose value it is so; of all those below it it must be so too.
func (l layout) search(isSo func(number) bool) *big.Int {
	low, high := new(big.Int), beside(l.inf(), 1)
	for {
		middle := new(big.Int).Add(low, high)
		middle.Rsh(middle, 1)
		if middle.Cmp(low) == 0 {
			return low
		}
		if isSo(l.value(middle)) {
			low = middle
		} else {
			high = middle
		}
	}
}

// place is the greatest encoding whose value is not above x.
func (l layout) place(x number) *big.Int {
	return l.search(func(y number) bool { return y.cmp(x) <= 0 })
}

// goesUp is the document's words of the modes, of a number above 0 between two neighbours.
func goesUp(m api.Mode, odd bool, half int) bool {
	switch m {
	case api.ToZero, api.Down:
		return false
	case api.Up:
		return true
	case api.NearEven:
		return half > 0 || half == 0 && odd
	}
	return half >= 0
}

// answer is what the call answers.
type answer struct {
	b     api.Bits
	flags api.Flags
	e     api.Errno
}

func of(b api.Bits, flags api.Flags, e api.Errno) answer { return answer{b, flags, e} }

func (a answer) String() string {
	return fmt.Sprintf("%016x%016x, flags %d, %v", a.b.Hi, a.b.Lo, a.flags, a.e)
}

// roots are what is delivered of the root of x, which is above 0, by each mode. No root is taken: the squares of a format's numbers, and of their middles, are held against x. That no root is beyond the greatest number or below the normal ones, P14.2 says, and its test.
func (l layout) roots(x number) (list [5]answer) {
	low := l.search(func(y number) bool { return y.squared().cmp(x) <= 0 })
	y := l.value(low)
	half := x.cmp(y.middle().squared())
	for _, m := range modes {
		switch {
		case y.squared().cmp(x) == 0:
			list[m] = answer{b: l.bits(false, low)}
		case goesUp(m, low.Bit(0) == 1, half):
			list[m] = answer{b: l.bits(false, beside(low, 1)), flags: api.Inexact}
		default:
			list[m] = answer{b: l.bits(false, low), flags: api.Inexact}
		}
	}
	return list
}

// wants are the roots of an encoding by each mode, by the chapter's words in their order.
func (l layout) wants(a api.Bits) [5]answer {
	neg, i := l.split(a)
	all := func(b api.Bits, flags api.Flags) [5]answer {
		x := answer{b: b, flags: flags}
		return [5]answer{x, x, x, x, x}
	}
	switch {
	case i.Cmp(l.quiet()) >= 0:
		return all(l.nan(), 0)
	case i.Cmp(l.inf()) > 0:
		return all(l.nan(), api.Invalid)
	case i.Sign() == 0:
		return all(a, 0)
	case neg:
		return all(l.nan(), api.Invalid)
	case i.Cmp(l.inf()) == 0:
		return all(a, 0)
	}
	return l.roots(l.value(i))
}

// both are the encodings of both signs.
func (l layout) both(i *big.Int) []api.Bits { return []api.Bits{l.bits(false, i), l.bits(true, i)} }

// one is the encoding of 1, without a sign.
func (l layout) one() *big.Int { return raise(small(int64(l.emax)), l.p-1) }

// edges are encodings at the edges of a format, of both signs: zeros, subnormal and normal numbers at their ends, about 1, 2 and 4, infinities, NaNs of both kinds at their ends.
func (l layout) edges() []api.Bits {
	var list []api.Bits
	one, step := l.one(), power(l.p-1)
	two := new(big.Int).Add(one, step)
	four := new(big.Int).Add(two, step)
	half := new(big.Int).Sub(one, step)
	for _, i := range []*big.Int{small(4), power(l.p - 3), power(l.p - 2), step, power(l.p), half, one, two, four, l.inf(), beside(l.quiet(), 3)} {
		for d := range int64(9) {
			list = append(list, l.both(beside(i, d-4))...)
		}
	}
	return append(list, l.both(beside(power(l.w-1), -1))...)
}

// significands are some of p bits, whose roots are near numbers and near halves, short and long.
func (l layout) significands() []*big.Int {
	one := power(l.p - 1)
	all := beside(power(l.p), -1)
	striped := new(big.Int).Div(power(l.p+1), small(3))
	short := squared(beside(power((l.p-1)/2), 1))
	list := []*big.Int{striped, new(big.Int).Add(one, power(l.p-2)), new(big.Int).Sqrt(power(2*l.p - 1)), raise(short, l.p-short.BitLen())}
	for d := range int64(8) {
		list = append(list, beside(one, d), beside(all, -d))
	}
	return list
}

// at is the encoding of a significand of p bits, its highest one being at the place top, which is a normal number's.
func (l layout) at(neg bool, sig *big.Int, top int) api.Bits {
	i := raise(small(int64(top+l.emax-1)), l.p-1)
	return l.bits(neg, i.Add(i, sig))
}

// any is some encoding; such as have few bits, and such as are near the format's ends, are among them.
func (l layout) any(s *source) api.Bits {
	i := s.bits(l.w - 1)
	switch s.below(6) {
	case 0:
		i = s.bits(1 + s.below(l.w-1))
	case 1:
		i = new(big.Int).Sub(l.inf(), s.bits(1+s.below(l.p+2)))
	case 2:
		i = new(big.Int).Add(raise(s.bits(l.w-l.p), l.p-1), raise(s.bits(3), s.below(l.p-1)))
	}
	return l.bits(s.below(4) == 0, i.Mod(i, power(l.w-1)))
}
