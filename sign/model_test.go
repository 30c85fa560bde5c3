package sign

import (
	"math/big"

	"abacus/api"
)

// layout is the document's table of the formats, so that what is expected hangs on no layer of the program.
type layout struct {
	form api.Form
	w, p int
	emax int
}

var layouts = []layout{
	{api.Half, 16, 11, 15},
	{api.Single, 32, 24, 127},
	{api.Double, 64, 53, 1023},
	{api.Quad, 128, 113, 16383},
}

// source is xorshift: the same numbers each time.
type source uint64

func (s *source) next() uint64 {
	x := uint64(*s)
	x ^= x << 13
	x ^= x >> 7
	x ^= x << 17
	*s = source(x)
	return x
}

func (s *source) below(n int) int { return int(s.next() >> 24 % uint64(n)) }

// bits is a number of at most n bits.
func (s *source) bits(n int) *big.Int {
	x := new(big.Int)
	for range n/64 + 1 {
		x.Lsh(x, 64).Add(x, new(big.Int).SetUint64(s.next()))
	}
	return x.Mod(x, power(n))
}

func power(n int) *big.Int { return new(big.Int).Lsh(big.NewInt(1), uint(n)) }

func small(x int64) *big.Int { return big.NewInt(x) }

func beside(a *big.Int, x int64) *big.Int { return new(big.Int).Add(a, big.NewInt(x)) }

func raise(a *big.Int, n int) *big.Int { return new(big.Int).Lsh(a, uint(n)) }

// inf is the infinity's encoding: all ones in the field.
func (l layout) inf() *big.Int { return raise(beside(power(l.w-l.p), -1), l.p-1) }

// quiet is the encoding of the least quiet NaN without a sign, which is the canonical one.
func (l layout) quiet() *big.Int { return new(big.Int).Add(l.inf(), power(l.p-2)) }

func (l layout) bits(neg bool, i *big.Int) api.Bits {
	n := new(big.Int).Set(i)
	if neg {
		n.Add(n, power(l.w-1))
	}
	low := new(big.Int).Mod(n, power(64))
	return api.Bits{Hi: n.Rsh(n, 64).Uint64(), Lo: low.Uint64()}
}

// whole is the number that the bits are.
func whole(b api.Bits) *big.Int {
	i := new(big.Int).SetUint64(b.Hi)
	return i.Lsh(i, 64).Add(i, new(big.Int).SetUint64(b.Lo))
}

// split is the sign of an encoding, and it without the sign.
func (l layout) split(b api.Bits) (neg bool, i *big.Int) {
	i = whole(b)
	neg = i.Bit(l.w-1) == 1
	return neg, i.Mod(i, power(l.w-1))
}

// answers is what all calls of two encodings answer; those of one encoding are asked of the first.
type answers struct {
	copied, not, xor encoding
	class, word      number
}

type encoding struct {
	b api.Bits
	e api.Errno
}

func told(b api.Bits, e api.Errno) encoding { return encoding{b, e} }

type number struct {
	n uint64
	e api.Errno
}

func counted(n uint64, e api.Errno) number { return number{n, e} }

func of(f api.Form, a, b api.Bits) answers {
	return answers{
		copied: told(Copy(f, a, b)), not: told(Not(f, a, b)), xor: told(Xor(f, a, b)),
		class: counted(Classify(f, a)), word: counted(ToWord(f, a)),
	}
}

// wants is what the chapter says of two encodings.
func (l layout) wants(a, b api.Bits) answers {
	own, i := l.split(a)
	other, _ := l.split(b)
	return answers{
		copied: encoding{b: l.bits(other, i)}, not: encoding{b: l.bits(!other, i)}, xor: encoding{b: l.bits(own != other, i)},
		class: number{n: 1 << l.class(a)}, word: l.word(a),
	}
}

// class is DOC.md's words of what an encoding is, in chapter 8's list of classes.
func (l layout) class(b api.Bits) int {
	neg, i := l.split(b)
	place := 0 // from the zero away
	switch {
	case i.Cmp(l.quiet()) >= 0:
		return 9
	case i.Cmp(l.inf()) > 0:
		return 8
	case i.Cmp(l.inf()) == 0:
		place = 3
	case i.Cmp(power(l.p-1)) >= 0:
		place = 2
	case i.Sign() != 0:
		place = 1
	}
	if neg {
		return 3 - place
	}
	return 4 + place
}

// word is ToWord's answer: 2^64 - 2^w more, if the sign bit is 1.
func (l layout) word(b api.Bits) number {
	if l.form == api.Quad {
		return number{e: api.ErrArg}
	}
	i := whole(b)
	if i.Bit(l.w-1) == 1 {
		i.Add(i, power(64)).Sub(i, power(l.w))
	}
	return number{n: i.Uint64()}
}

// cut is OfWord's answer: what a quotient by 2^w leaves.
func (l layout) cut(x uint64) encoding {
	if l.form == api.Quad {
		return encoding{e: api.ErrArg}
	}
	i := new(big.Int).SetUint64(x)
	return encoding{b: l.bits(false, i.Mod(i, power(l.w)))}
}

// both are the encodings of both signs.
func (l layout) both(i *big.Int) []api.Bits { return []api.Bits{l.bits(false, i), l.bits(true, i)} }

// edges are encodings at the edges of a format, of both signs: zeros, subnormal and normal numbers at their ends, about 1 and 2, infinities, NaNs of both kinds at their ends, and of the widest one some about where the second word begins.
func (l layout) edges() []api.Bits {
	one := raise(small(int64(l.emax)), l.p-1)
	list := append(l.both(small(0)), l.both(small(1))...)
	list = append(list, l.both(beside(power(l.w-1), -1))...)
	list = append(list, l.both(beside(power(l.w-1), -2))...)
	middles := []*big.Int{power(l.p - 1), power(l.p), one, new(big.Int).Add(one, power(l.p-1)), l.inf(), l.quiet()}
	if l.w > 64 {
		middles = append(middles, power(64), new(big.Int).Add(one, power(64)), raise(small(3), 63))
	}
	for _, i := range middles {
		for d := range int64(5) {
			list = append(list, l.both(beside(i, d-2))...)
		}
	}
	return list
}

// any is some encoding; such as have few bits, such as are near the infinity, and NaNs are among them.
func (l layout) any(s *source) api.Bits {
	i := s.bits(l.w - 1)
	switch s.below(6) {
	case 0:
		i = s.bits(1 + s.below(l.w-1))
	case 1:
		i = new(big.Int).Sub(l.inf(), s.bits(1+s.below(l.p+2)))
	case 2:
		i = new(big.Int).Add(l.inf(), s.bits(1+s.below(l.p-1)))
	}
	return l.bits(s.below(2) == 0, i.Mod(i, power(l.w-1)))
}

// near is an encoding that differs from b in one bit, in its lower bits, in none, or by one step.
func (l layout) near(s *source, b api.Bits) api.Bits {
	i := whole(b)
	switch s.below(4) {
	case 0:
		place := s.below(l.w)
		i.SetBit(i, place, i.Bit(place)^1)
	case 1:
		i.Xor(i, s.bits(1+s.below(l.w)))
	case 2:
		i = beside(i, int64(s.below(3)-1))
	}
	return l.bits(false, i.Mod(i, power(l.w)))
}
