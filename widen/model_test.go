package widen

import (
	"fmt"
	"math/big"

	"abacus/api"
)

// layout is the document's table of the formats, so that what is expected hangs on no layer of the program.
type layout struct {
	form api.Form
	w, p int
	emax int
}

var layouts = []layout{
	{api.Half, 16, 11, 15},
	{api.Single, 32, 24, 127},
	{api.Double, 64, 53, 1023},
	{api.Quad, 128, 113, 16383},
}

var modes = []api.Mode{api.NearEven, api.ToZero, api.Down, api.Up, api.NearAway}

func (l layout) emin() int { return 1 - l.emax }

// source is xorshift: the same numbers each time.
type source uint64

func (s *source) next() uint64 {
	x := uint64(*s)
	x ^= x << 13
	x ^= x >> 7
	x ^= x << 17
	*s = source(x)
	return x
}

func (s *source) below(n int) int { return int(s.next() >> 24 % uint64(n)) }

// bits is a number of at most n bits.
func (s *source) bits(n int) *big.Int {
	x := new(big.Int)
	for range n/64 + 1 {
		x.Lsh(x, 64).Add(x, new(big.Int).SetUint64(s.next()))
	}
	return x.Mod(x, power(n))
}

func power(n int) *big.Int { return new(big.Int).Lsh(big.NewInt(1), uint(n)) }

func small(x int64) *big.Int { return big.NewInt(x) }

func beside(a *big.Int, x int64) *big.Int { return new(big.Int).Add(a, big.NewInt(x)) }

func raise(a *big.Int, n int) *big.Int { return new(big.Int).Lsh(a, uint(n)) }

// magnitude is n times 2^e, not below 0.
type magnitude struct {
	n *big.Int
	e int
}

// between is x and k quarters of the step from it to the next one.
func (x magnitude) between(k int64) magnitude { return magnitude{beside(raise(x.n, 2), k), x.e - 2} }

// cmp is -1, 0, 1, as x is below y, is y, is above it. The highest bits' places come first, so that far numbers need no long shifts.
func (x magnitude) cmp(y magnitude) int {
	if x.n.Sign() == 0 || y.n.Sign() == 0 {
		return x.n.Cmp(y.n)
	}
	if d := x.n.BitLen() + x.e - y.n.BitLen() - y.e; d > 0 {
		return 1
	} else if d < 0 {
		return -1
	}
	if x.e > y.e {
		return raise(x.n, x.e-y.e).Cmp(y.n)
	}
	return x.n.Cmp(raise(y.n, y.e-x.e))
}

// value is the magnitude of the encoding i without a sign; of the infinity it is 2^(emax+1).
func (l layout) value(i *big.Int) magnitude {
	field := int(new(big.Int).Rsh(i, uint(l.p-1)).Int64())
	fraction := new(big.Int).Mod(i, power(l.p-1))
	if field == 0 {
		return magnitude{fraction, l.emin() - l.p + 1}
	}
	return magnitude{fraction.Add(fraction, power(l.p-1)), field - l.emax - l.p + 1}
}

// inf is the infinity's encoding: all ones in the field.
func (l layout) inf() *big.Int { return raise(beside(power(l.w-l.p), -1), l.p-1) }

// quiet is the encoding of the least quiet NaN without a sign, which is the canonical one.
func (l layout) quiet() *big.Int { return new(big.Int).Add(l.inf(), power(l.p-2)) }

func (l layout) nan() api.Bits { return l.bits(false, l.quiet()) }

func (l layout) bits(neg bool, i *big.Int) api.Bits {
	n := new(big.Int).Set(i)
	if neg {
		n.Add(n, power(l.w-1))
	}
	low := new(big.Int).Mod(n, power(64))
	return api.Bits{Hi: n.Rsh(n, 64).Uint64(), Lo: low.Uint64()}
}

// split is the sign of an encoding, and it without the sign.
func (l layout) split(b api.Bits) (neg bool, i *big.Int) {
	i = new(big.Int).SetUint64(b.Hi)
	i.Lsh(i, 64).Add(i, new(big.Int).SetUint64(b.Lo))
	neg = i.Bit(l.w-1) == 1
	return neg, i.Mod(i, power(l.w-1))
}

// place is the greatest encoding, up to the infinity's, whose value is not above x.
func (l layout) place(x magnitude) *big.Int {
	low, high := new(big.Int), beside(l.inf(), 1)
	for {
		middle := new(big.Int).Add(low, high)
		middle.Rsh(middle, 1)
		if middle.Cmp(low) == 0 {
			return low
		}
		if l.value(middle).cmp(x) <= 0 {
			low = middle
		} else {
			high = middle
		}
	}
}

// goesUp is the document's words of the modes, of a number between two neighbours.
func goesUp(m api.Mode, neg, odd bool, half int) bool {
	switch m {
	case api.ToZero:
		return false
	case api.Down:
		return neg
	case api.Up:
		return !neg
	case api.NearEven:
		return half > 0 || half == 0 && odd
	}
	return half >= 0
}

// tiny: below 2^emin, and not rounded to it where the step is that of the numbers just below it.
func (l layout) tiny(m api.Mode, neg bool, x magnitude) bool {
	last := magnitude{beside(power(l.p), -1), l.emin() - l.p}
	switch {
	case x.cmp(magnitude{small(1), l.emin()}) >= 0:
		return false
	case x.cmp(last) <= 0:
		return true
	}
	return !goesUp(m, neg, true, x.cmp(last.between(2)))
}

// answer is what Convert answers.
type answer struct {
	b     api.Bits
	flags api.Flags
	e     api.Errno
}

func of(b api.Bits, flags api.Flags, e api.Errno) answer { return answer{b, flags, e} }

func (a answer) String() string {
	return fmt.Sprintf("%016x%016x, flags %d, %v", a.b.Hi, a.b.Lo, a.flags, a.e)
}

// fit is what Fits answers.
type fit struct {
	is bool
	e  api.Errno
}

func told(is bool, e api.Errno) fit { return fit{is, e} }

// beyond is what is delivered where a number overflows.
func (l layout) beyond(m api.Mode, neg bool) answer {
	r := l.inf()
	if m == api.ToZero || m == api.Down && !neg || m == api.Up && neg {
		r = beside(r, -1)
	}
	return answer{b: l.bits(neg, r), flags: api.Inexact + api.Overflow}
}

// rounded are what is delivered of a number that is not 0 by each mode, and whether the format has it.
func (l layout) rounded(neg bool, x magnitude) (list [5]answer, is bool) {
	low := l.place(x)
	is = l.value(low).cmp(x) == 0 && low.Cmp(l.inf()) < 0
	half := x.cmp(l.value(low).between(2))
	for _, m := range modes {
		r := low
		if !is && goesUp(m, neg, low.Bit(0) == 1, half) {
			r = beside(low, 1)
		}
		switch {
		case r.Cmp(l.inf()) >= 0:
			list[m] = l.beyond(m, neg)
		case is:
			list[m] = answer{b: l.bits(neg, r)}
		case l.tiny(m, neg, x):
			list[m] = answer{b: l.bits(neg, r), flags: api.Inexact + api.Underflow}
		default:
			list[m] = answer{b: l.bits(neg, r), flags: api.Inexact}
		}
	}
	return list, is
}

// pair is two formats, the same ones too.
type pair struct{ to, from layout }

func pairs() []pair {
	var list []pair
	for _, to := range layouts {
		for _, from := range layouts {
			list = append(list, pair{to, from})
		}
	}
	return list
}

// wants are what an encoding is converted into by each mode, by the chapter's words in their order, and whether it fits.
func (p pair) wants(a api.Bits) (list [5]answer, is bool) {
	neg, i := p.from.split(a)
	all := func(b api.Bits, flags api.Flags) [5]answer {
		x := answer{b: b, flags: flags}
		return [5]answer{x, x, x, x, x}
	}
	switch {
	case i.Cmp(p.from.quiet()) >= 0:
		return all(p.to.nan(), 0), false
	case i.Cmp(p.from.inf()) > 0:
		return all(p.to.nan(), api.Invalid), false
	case i.Cmp(p.from.inf()) == 0:
		return all(p.to.bits(neg, p.to.inf()), 0), true
	case i.Sign() == 0:
		return all(p.to.bits(neg, i), 0), true
	}
	return p.to.rounded(neg, p.from.value(i))
}

// both are the encodings of both signs.
func (l layout) both(i *big.Int) []api.Bits { return []api.Bits{l.bits(false, i), l.bits(true, i)} }

// one is the encoding of 1, without a sign.
func (l layout) one() *big.Int { return raise(small(int64(l.emax)), l.p-1) }

// marks are encodings without a sign at the edges of a format: about the zero, subnormal and normal numbers at their ends, about 1 and 2, about the infinity.
func (l layout) marks() []*big.Int {
	var list []*big.Int
	one := l.one()
	for _, i := range []*big.Int{small(4), power(l.p - 3), power(l.p - 2), power(l.p - 1), power(l.p), one, new(big.Int).Add(one, power(l.p-1)), l.inf()} {
		for d := range int64(9) {
			list = append(list, beside(i, d-4))
		}
	}
	return list
}

// edges are encodings of both signs at the edges of a format, NaNs of both kinds at their ends too, and of the widest one some about where the second word begins.
func (l layout) edges() []api.Bits {
	list := l.both(beside(power(l.w-1), -1))
	marks := l.marks()
	for d := range int64(5) {
		marks = append(marks, beside(l.quiet(), d-2))
		if l.w > 64 {
			marks = append(marks, beside(power(64), d-2), new(big.Int).Add(l.one(), beside(power(64), d-2)))
		}
	}
	for _, i := range marks {
		list = append(list, l.both(i)...)
	}
	return list
}

// at are encodings of both signs at a magnitude and right beside it.
func (l layout) at(x magnitude) []api.Bits {
	var list []api.Bits
	i := l.place(x)
	for d := range int64(5) {
		if at := beside(i, d-2); at.Sign() >= 0 && at.Cmp(l.inf()) <= 0 {
			list = append(list, l.both(at)...)
		}
	}
	return list
}

// facing are encodings of from at the edges of to: at its numbers, and at the quarters between them, its middles among these.
func (p pair) facing() []api.Bits {
	var list []api.Bits
	for _, i := range p.to.marks() {
		if i.Cmp(p.to.inf()) > 0 {
			continue
		}
		for k := range int64(4) {
			list = append(list, p.from.at(p.to.value(i).between(k))...)
		}
	}
	// Where it is told whether a number is tiny: one bit below the least normal number's step.
	for d := range int64(4) {
		last := magnitude{beside(power(p.to.p), d-3), p.to.emin() - p.to.p}
		for k := range int64(4) {
			list = append(list, p.from.at(last.between(k))...)
		}
	}
	return list
}

// any is some encoding; such as have few bits, and such as are near the format's ends, are among them.
func (l layout) any(s *source) api.Bits {
	i := s.bits(l.w - 1)
	switch s.below(6) {
	case 0:
		i = s.bits(1 + s.below(l.w-1))
	case 1:
		i = new(big.Int).Sub(l.inf(), s.bits(1+s.below(l.p+2)))
	case 2:
		i = new(big.Int).Add(raise(s.bits(l.w-l.p), l.p-1), raise(s.bits(3), s.below(l.p-1)))
	}
	return l.bits(s.below(2) == 0, i.Mod(i, power(l.w-1)))
}

// near is some encoding of from about a number of to: that number, or it with a few bits more, at any place below its step.
func (p pair) near(s *source) api.Bits {
	neg, i := p.to.split(p.to.any(s))
	x := p.to.value(i.Mod(i, p.to.inf()))
	k := 1 + s.below(p.from.p)
	x = magnitude{raise(x.n, k), x.e - k}
	switch s.below(3) {
	case 0:
		x.n.Add(x.n, power(k-1))
	case 1:
		x.n.Add(x.n, raise(s.bits(2), s.below(k)))
	}
	at := p.from.place(x)
	return p.from.bits(neg, at)
}
