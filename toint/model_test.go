package toint

import (
	"fmt"
	"math/big"

	"abacus/api"
)

// layout is the document's table of the formats, so that what is expected hangs on no layer of the program.
type layout struct {
	form api.Form
	w, p int
	emax int
}

var layouts = []layout{
	{api.Half, 16, 11, 15},
	{api.Single, 32, 24, 127},
	{api.Double, 64, 53, 1023},
	{api.Quad, 128, 113, 16383},
}

var modes = []api.Mode{api.NearEven, api.ToZero, api.Down, api.Up, api.NearAway}

// span is the chapter's words of a kind: its range, and how many bits of a number a register has.
type span struct {
	kind            api.IntKind
	least, greatest *big.Int
	size            int
}

var spans = []span{
	{api.W, less(power(31)), beside(power(31), -1), 32},
	{api.WU, small(0), beside(power(32), -1), 32},
	{api.L, less(power(63)), beside(power(63), -1), 64},
	{api.LU, small(0), beside(power(64), -1), 64},
}

// source is xorshift: the same numbers each time.
type source uint64

func (s *source) next() uint64 {
	x := uint64(*s)
	x ^= x << 13
	x ^= x >> 7
	x ^= x << 17
	*s = source(x)
	return x
}

func (s *source) below(n int) int { return int(s.next() >> 24 % uint64(n)) }

// bits is a number of at most n bits.
func (s *source) bits(n int) *big.Int {
	x := new(big.Int)
	for range n/64 + 1 {
		x.Lsh(x, 64).Add(x, new(big.Int).SetUint64(s.next()))
	}
	return x.Mod(x, power(n))
}

func power(n int) *big.Int { return new(big.Int).Lsh(big.NewInt(1), uint(n)) }

func small(x int64) *big.Int { return big.NewInt(x) }

func less(a *big.Int) *big.Int { return new(big.Int).Neg(a) }

func beside(a *big.Int, x int64) *big.Int { return new(big.Int).Add(a, big.NewInt(x)) }

func raise(a *big.Int, n int) *big.Int { return new(big.Int).Lsh(a, uint(n)) }

// number is n times 2^e, with its sign.
type number struct {
	n *big.Int
	e int
}

// cmp is -1, 0, 1, as x is below y, is y, is above it.
func (x number) cmp(y number) int {
	e := min(x.e, y.e)
	return raise(x.n, x.e-e).Cmp(raise(y.n, y.e-e))
}

// value is the magnitude of the encoding i without a sign; of the infinity it is 2^(emax+1).
func (l layout) value(i *big.Int) number {
	field := int(new(big.Int).Rsh(i, uint(l.p-1)).Int64())
	fraction := new(big.Int).Mod(i, power(l.p-1))
	if field == 0 {
		return number{fraction, 2 - l.emax - l.p}
	}
	return number{fraction.Add(fraction, power(l.p-1)), field - l.emax - l.p + 1}
}

// inf is the infinity's encoding: all ones in the field.
func (l layout) inf() *big.Int { return raise(beside(power(l.w-l.p), -1), l.p-1) }

// one is the encoding of 1.
func (l layout) one() *big.Int { return raise(small(int64(l.emax)), l.p-1) }

func (l layout) bits(neg bool, i *big.Int) api.Bits {
	n := new(big.Int).Set(i)
	if neg {
		n.Add(n, power(l.w-1))
	}
	low := new(big.Int).Mod(n, power(64))
	return api.Bits{Hi: n.Rsh(n, 64).Uint64(), Lo: low.Uint64()}
}

// split is the sign of an encoding, and it without the sign.
func (l layout) split(b api.Bits) (neg bool, i *big.Int) {
	i = new(big.Int).SetUint64(b.Hi)
	i.Lsh(i, 64).Add(i, new(big.Int).SetUint64(b.Lo))
	neg = i.Bit(l.w-1) == 1
	return neg, i.Mod(i, power(l.w-1))
}

// both are the encodings of both signs.
func (l layout) both(i *big.Int) []api.Bits { return []api.Bits{l.bits(false, i), l.bits(true, i)} }

// place is the greatest encoding, up to the infinity's, whose value is not above x.
func (l layout) place(x number) *big.Int {
	low, high := new(big.Int), beside(l.inf(), 1)
	for {
		middle := new(big.Int).Add(low, high)
		middle.Rsh(middle, 1)
		if middle.Cmp(low) == 0 {
			return low
		}
		if l.value(middle).cmp(x) <= 0 {
			low = middle
		} else {
			high = middle
		}
	}
}

// rounded is the document's words of the modes, by the whole numbers right below x and right above it.
func (x number) rounded(m api.Mode) (r *big.Int, exact bool) {
	if x.e >= 0 {
		return raise(x.n, x.e), true
	}
	below := new(big.Int).Rsh(x.n, uint(-x.e)) // of a number with a sign that goes down
	above := beside(below, 1)
	if x.cmp(number{below, 0}) == 0 {
		return below, true
	}
	toZero, away := below, above
	if x.n.Sign() < 0 {
		toZero, away = above, below
	}
	middle := x.cmp(number{new(big.Int).Add(below, above), -1})
	switch {
	case m == api.ToZero:
		return toZero, false
	case m == api.Down:
		return below, false
	case m == api.Up:
		return above, false
	case middle < 0:
		return below, false
	case middle > 0:
		return above, false
	case m == api.NearAway:
		return away, false
	case below.Bit(0) == 0:
		return below, false
	}
	return above, false
}

// answer is what Convert answers.
type answer struct {
	x     uint64
	flags api.Flags
	e     api.Errno
}

func of(x uint64, flags api.Flags, e api.Errno) answer { return answer{x, flags, e} }

func (a answer) String() string { return fmt.Sprintf("%x, flags %d, %v", a.x, a.flags, a.e) }

// total is what Whole answers.
type total struct {
	neg   bool
	n     api.Wide
	exact bool
	e     api.Errno
}

func told(neg bool, n api.Wide, exact bool, e api.Errno) total { return total{neg, n, exact, e} }

func (a total) String() string {
	return fmt.Sprintf("neg %v, %x, exact %v, %v", a.neg, a.n, a.exact, a.e)
}

// last is what Least and Greatest answer.
type last struct {
	x uint64
	e api.Errno
}

func ending(x uint64, e api.Errno) last { return last{x, e} }

func words(n *big.Int) (w api.Wide) {
	for i := range w {
		w[i] = new(big.Int).Mod(new(big.Int).Rsh(n, uint(64*i)), power(64)).Uint64()
	}
	return w
}

// register is a number as an x register has it: its lowest bits, and that of them which is the highest in all places above.
func (k span) register(n *big.Int) uint64 {
	x := new(big.Int).Mod(n, power(k.size))
	if x.Bit(k.size-1) == 1 {
		x.Add(x, power(64)).Sub(x, power(k.size))
	}
	return x.Uint64()
}

// ofNumber is what is answered of what was rounded to r.
func (k span) ofNumber(r *big.Int, exact bool) answer {
	switch {
	case r.Cmp(k.least) < 0:
		return answer{x: k.register(k.least), flags: api.Invalid}
	case r.Cmp(k.greatest) > 0:
		return answer{x: k.register(k.greatest), flags: api.Invalid}
	case !exact:
		return answer{x: k.register(r), flags: api.Inexact}
	}
	return answer{x: k.register(r)}
}

// wants are what Whole and Convert, by each kind, answer, by the chapter's words in their order.
func (l layout) wants(m api.Mode, a api.Bits) (whole total, list [4]answer) {
	neg, i := l.split(a)
	if i.Cmp(l.inf()) >= 0 {
		for _, k := range spans {
			which := k.greatest
			if neg && i.Cmp(l.inf()) == 0 {
				which = k.least
			}
			list[k.kind] = answer{x: k.register(which), flags: api.Invalid}
		}
		return total{e: api.ErrNumber}, list
	}
	x := l.value(i)
	if neg {
		x.n.Neg(x.n)
	}
	r, exact := x.rounded(m)
	for _, k := range spans {
		list[k.kind] = k.ofNumber(r, exact)
	}
	if new(big.Int).Abs(r).Cmp(power(384)) >= 0 {
		return total{e: api.ErrLong}, list
	}
	return total{r.Sign() < 0, words(new(big.Int).Abs(r)), exact, api.OK}, list
}

// edges are encodings of both signs at the edges of a format: about the zero, subnormal and normal numbers at their ends, about 1, about the infinity; NaNs of both kinds at their ends; and of the widest format some about where the second word begins.
func (l layout) edges() []api.Bits {
	list := l.both(beside(power(l.w-1), -1))
	marks := []*big.Int{small(2), power(l.p - 2), power(l.p - 1), power(l.p), l.one(), l.inf(), new(big.Int).Add(l.inf(), power(l.p-2))}
	if l.w > 64 {
		marks = append(marks, power(64), new(big.Int).Add(l.one(), power(64)))
	}
	for _, i := range marks {
		for d := range int64(5) {
			list = append(list, l.both(beside(i, d-2))...)
		}
	}
	return list
}

// at are encodings of both signs at a magnitude and right beside it.
func (l layout) at(x number) []api.Bits {
	var list []api.Bits
	i := l.place(x)
	for d := range int64(5) {
		if at := beside(i, d-2); at.Sign() >= 0 && at.Cmp(l.inf()) <= 0 {
			list = append(list, l.both(at)...)
		}
	}
	return list
}

// facing are encodings about whole numbers that are at some edge, and about the quarters between these: at 0, where words and halves of them end, where a Wide ends, and where the format's own steps come to 1/2, 1 and 2.
func (l layout) facing() []api.Bits {
	var list []api.Bits
	for _, n := range []int{2, 31, 32, 63, 64, 65, 128, 383, 384, l.p - 2, l.p - 1, l.p, l.p + 1} {
		for d := range int64(9) {
			for k := range int64(4) {
				list = append(list, l.at(number{beside(raise(beside(power(n), d-4), 2), k), -2})...)
			}
		}
	}
	return list
}

// any is some encoding; such as have few bits, and such as are near the format's ends, are among them.
func (l layout) any(s *source) api.Bits {
	i := s.bits(l.w - 1)
	switch s.below(6) {
	case 0:
		i = s.bits(1 + s.below(l.w-1))
	case 1:
		i = new(big.Int).Sub(l.inf(), s.bits(1+s.below(l.p+2)))
	case 2:
		i = new(big.Int).Add(raise(s.bits(l.w-l.p), l.p-1), raise(s.bits(3), s.below(l.p-1)))
	}
	return l.bits(s.below(2) == 0, i.Mod(i, power(l.w-1)))
}

// near is some encoding about a whole number that has up to 70 bits: that number, or it with a few bits more, at any place below 1.
func (l layout) near(s *source) api.Bits {
	k := 1 + s.below(l.p)
	n := raise(s.bits(1+s.below(70)), k)
	switch s.below(4) {
	case 0:
		n.Add(n, power(k-1))
	case 1:
		n.Add(n, raise(s.bits(2), s.below(k)))
	case 2:
		n.Add(n, s.bits(k))
	}
	return l.bits(s.below(2) == 0, l.place(number{n, -k}))
}
