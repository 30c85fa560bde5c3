package order

import (
	"math/big"

	"abacus/api"
)

// layout is the document's table of the formats, so that what is expected hangs on no layer of the program.
type layout struct {
	form api.Form
	w, p int
	emax int
}

var layouts = []layout{
	{api.Half, 16, 11, 15},
	{api.Single, 32, 24, 127},
	{api.Double, 64, 53, 1023},
	{api.Quad, 128, 113, 16383},
}

// source is xorshift: the same numbers each time.
type source uint64

func (s *source) next() uint64 {
	x := uint64(*s)
	x ^= x << 13
	x ^= x >> 7
	x ^= x << 17
	*s = source(x)
	return x
}

func (s *source) below(n int) int { return int(s.next() >> 24 % uint64(n)) }

// bits is a number of at most n bits.
func (s *source) bits(n int) *big.Int {
	x := new(big.Int)
	for range n/64 + 1 {
		x.Lsh(x, 64).Add(x, new(big.Int).SetUint64(s.next()))
	}
	return x.Mod(x, power(n))
}

func power(n int) *big.Int { return new(big.Int).Lsh(big.NewInt(1), uint(n)) }

func small(x int64) *big.Int { return big.NewInt(x) }

func beside(a *big.Int, x int64) *big.Int { return new(big.Int).Add(a, big.NewInt(x)) }

func raise(a *big.Int, n int) *big.Int { return new(big.Int).Lsh(a, uint(n)) }

// inf is the infinity's encoding: all ones in the field.
func (l layout) inf() *big.Int { return raise(beside(power(l.w-l.p), -1), l.p-1) }

// quiet is the encoding of the least quiet NaN without a sign, which is the canonical one.
func (l layout) quiet() *big.Int { return new(big.Int).Add(l.inf(), power(l.p-2)) }

func (l layout) bits(neg bool, i *big.Int) api.Bits {
	n := new(big.Int).Set(i)
	if neg {
		n.Add(n, power(l.w-1))
	}
	low := new(big.Int).Mod(n, power(64))
	return api.Bits{Hi: n.Rsh(n, 64).Uint64(), Lo: low.Uint64()}
}

// whole is the number that the bits are.
func whole(b api.Bits) *big.Int {
	i := new(big.Int).SetUint64(b.Hi)
	return i.Lsh(i, 64).Add(i, new(big.Int).SetUint64(b.Lo))
}

// split is the sign of an encoding, and it without the sign.
func (l layout) split(b api.Bits) (neg bool, i *big.Int) {
	i = whole(b)
	neg = i.Bit(l.w-1) == 1
	return neg, i.Mod(i, power(l.w-1))
}

func (l layout) isNaN(b api.Bits) bool {
	_, i := l.split(b)
	return i.Cmp(l.inf()) > 0
}

func (l layout) isSignaling(b api.Bits) bool {
	_, i := l.split(b)
	return i.Cmp(l.inf()) > 0 && i.Cmp(l.quiet()) < 0
}

// number is n times 2^e.
type number struct {
	n *big.Int
	e int
}

// cmp is -1, 0, 1, as x is below y, is y, is above it: the signs first, then the highest bits' places, so that far numbers need no long shifts.
func (x number) cmp(y number) int {
	sign := x.n.Sign()
	if sign == 0 || sign != y.n.Sign() {
		return small(int64(sign)).Cmp(small(int64(y.n.Sign())))
	}
	if d := x.n.BitLen() + x.e - y.n.BitLen() - y.e; d > 0 {
		return sign
	} else if d < 0 {
		return -sign
	}
	if x.e > y.e {
		return raise(x.n, x.e-y.e).Cmp(y.n)
	}
	return x.n.Cmp(raise(y.n, y.e-x.e))
}

// value is what an encoding is; of an infinity 2^(emax+1) or -2^(emax+1), which is beyond all numbers.
func (l layout) value(b api.Bits) number {
	neg, i := l.split(b)
	field := int(new(big.Int).Rsh(i, uint(l.p-1)).Int64())
	x := number{new(big.Int).Mod(i, power(l.p-1)), 2 - l.emax - l.p}
	if field != 0 {
		x = number{x.n.Add(x.n, power(l.p-1)), field - l.emax - l.p + 1}
	}
	if neg {
		x.n.Neg(x.n)
	}
	return x
}

// relation is the chapter's words of it.
func (l layout) relation(a, b api.Bits) api.Relation {
	if l.isNaN(a) || l.isNaN(b) {
		return api.Unordered
	}
	return [3]api.Relation{api.Less, api.Equal, api.Greater}[1+l.value(a).cmp(l.value(b))]
}

// total is the chapter's words of Total.
func (l layout) total(a, b api.Bits) int {
	neg, x := l.split(a)
	other, y := l.split(b)
	switch {
	case neg && !other:
		return -1
	case other && !neg:
		return 1
	case neg:
		return y.Cmp(x)
	}
	return x.Cmp(y)
}

// truth is what Eq, Lt and Le answer.
type truth struct {
	is    bool
	flags api.Flags
	e     api.Errno
}

func told(is bool, flags api.Flags, e api.Errno) truth { return truth{is, flags, e} }

// choice is what Min and Max answer.
type choice struct {
	b     api.Bits
	flags api.Flags
	e     api.Errno
}

func taken(b api.Bits, flags api.Flags, e api.Errno) choice { return choice{b, flags, e} }

// answers is what all calls of two encodings answer; a fault of Compare and Total too.
type answers struct {
	relation   api.Relation
	eq, lt, le truth
	min, max   choice
	total      int
	faults     [2]api.Errno
}

func of(f api.Form, a, b api.Bits) answers {
	r, e := Compare(f, a, b)
	n, fault := Total(f, a, b)
	return answers{
		relation: r, total: n, faults: [2]api.Errno{e, fault},
		eq: told(Eq(f, a, b)), lt: told(Lt(f, a, b)), le: told(Le(f, a, b)), min: taken(Min(f, a, b)), max: taken(Max(f, a, b)),
	}
}

// wants is what the chapter says of two encodings.
func (l layout) wants(a, b api.Bits) answers {
	w := answers{relation: l.relation(a, b), total: l.total(a, b)}
	w.eq.is = w.relation == api.Equal
	w.lt.is = w.relation == api.Less
	w.le.is = w.relation == api.Less || w.relation == api.Equal
	if w.relation == api.Unordered {
		w.lt.flags, w.le.flags = api.Invalid, api.Invalid
	}
	if l.isSignaling(a) || l.isSignaling(b) {
		w.eq.flags, w.min.flags, w.max.flags = api.Invalid, api.Invalid, api.Invalid
	}
	w.min.b, w.max.b = l.lesser(a, b), l.greater(a, b)
	return w
}

// instead is what stands for the answer of Min and Max where one is a NaN.
func (l layout) instead(a, b api.Bits) api.Bits {
	switch {
	case l.isNaN(a) && l.isNaN(b):
		return l.bits(false, l.quiet())
	case l.isNaN(a):
		return b
	}
	return a
}

func (l layout) lesser(a, b api.Bits) api.Bits {
	neg, _ := l.split(b)
	switch r := l.relation(a, b); {
	case r == api.Unordered:
		return l.instead(a, b)
	case r == api.Greater, r == api.Equal && neg:
		return b
	}
	return a
}

func (l layout) greater(a, b api.Bits) api.Bits {
	neg, _ := l.split(a)
	switch r := l.relation(a, b); {
	case r == api.Unordered:
		return l.instead(a, b)
	case r == api.Less, r == api.Equal && neg:
		return b
	}
	return a
}

// both are the encodings of both signs.
func (l layout) both(i *big.Int) []api.Bits { return []api.Bits{l.bits(false, i), l.bits(true, i)} }

// edges are encodings at the edges of a format, of both signs: zeros, subnormal and normal numbers at their ends, about 1 and 2, infinities, NaNs of both kinds at their ends, and of the widest one some about where the second word begins.
func (l layout) edges() []api.Bits {
	one := raise(small(int64(l.emax)), l.p-1)
	list := append(l.both(small(0)), l.both(small(1))...)
	list = append(list, l.both(beside(power(l.w-1), -1))...)
	list = append(list, l.both(beside(power(l.w-1), -2))...)
	middles := []*big.Int{power(l.p - 1), power(l.p), one, new(big.Int).Add(one, power(l.p-1)), l.inf(), l.quiet()}
	if l.w > 64 {
		middles = append(middles, power(64), new(big.Int).Add(one, power(64)), raise(small(3), 63))
	}
	for _, i := range middles {
		for d := range int64(5) {
			list = append(list, l.both(beside(i, d-2))...)
		}
	}
	return list
}

// any is some encoding; such as have few bits, such as are near the infinity, and NaNs are among them.
func (l layout) any(s *source) api.Bits {
	i := s.bits(l.w - 1)
	switch s.below(6) {
	case 0:
		i = s.bits(1 + s.below(l.w-1))
	case 1:
		i = new(big.Int).Sub(l.inf(), s.bits(1+s.below(l.p+2)))
	case 2:
		i = new(big.Int).Add(l.inf(), s.bits(1+s.below(l.p-1)))
	}
	return l.bits(s.below(2) == 0, i.Mod(i, power(l.w-1)))
}

// near is an encoding that differs from b in one bit, in its lower bits, in none, or by one step.
func (l layout) near(s *source, b api.Bits) api.Bits {
	i := whole(b)
	switch s.below(4) {
	case 0:
		place := s.below(l.w)
		i.SetBit(i, place, i.Bit(place)^1)
	case 1:
		i.Xor(i, s.bits(1+s.below(l.w)))
	case 2:
		i = beside(i, int64(s.below(3)-1))
	}
	return l.bits(false, i.Mod(i, power(l.w)))
}
