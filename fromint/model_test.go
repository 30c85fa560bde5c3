package fromint

import (
	"fmt"
	"math/big"

	"abacus/api"
)

// layout is the document's table of the formats, so that what is expected hangs on no layer of the program.
type layout struct {
	form api.Form
	w, p int
	emax int
}

var layouts = []layout{
	{api.Half, 16, 11, 15},
	{api.Single, 32, 24, 127},
	{api.Double, 64, 53, 1023},
	{api.Quad, 128, 113, 16383},
}

var modes = []api.Mode{api.NearEven, api.ToZero, api.Down, api.Up, api.NearAway}

// span is the chapter's words of a kind: how many of the lowest bits it reads, and whether these have a sign.
type span struct {
	kind   api.IntKind
	size   int
	signed bool
}

var spans = []span{
	{api.W, 32, true},
	{api.WU, 32, false},
	{api.L, 64, true},
	{api.LU, 64, false},
}

// source is xorshift: the same numbers each time.
type source uint64

func (s *source) next() uint64 {
	x := uint64(*s)
	x ^= x << 13
	x ^= x >> 7
	x ^= x << 17
	*s = source(x)
	return x
}

func (s *source) below(n int) int { return int(s.next() >> 24 % uint64(n)) }

func power(n int) *big.Int { return new(big.Int).Lsh(big.NewInt(1), uint(n)) }

func beside(a *big.Int, x int64) *big.Int { return new(big.Int).Add(a, big.NewInt(x)) }

func ofWord(x uint64) *big.Int { return new(big.Int).SetUint64(x) }

// number is the number of a word, with its sign.
func (k span) number(x uint64) *big.Int {
	n := new(big.Int).Mod(ofWord(x), power(k.size))
	if k.signed && n.Bit(k.size-1) == 1 {
		n.Sub(n, power(k.size))
	}
	return n
}

// register is a number as an x register has it: its lowest bits, and that of them which is the highest in all places above.
func (k span) register(n *big.Int) uint64 {
	x := new(big.Int).Mod(n, power(k.size))
	if x.Bit(k.size-1) == 1 {
		x.Add(x, power(64)).Sub(x, power(k.size))
	}
	return x.Uint64()
}

// sized is what Number answers.
type sized struct {
	neg bool
	n   uint64
	e   api.Errno
}

func told(neg bool, n uint64, e api.Errno) sized { return sized{neg, n, e} }

func (a sized) String() string { return fmt.Sprintf("neg %v, %x, %v", a.neg, a.n, a.e) }

// answer is what Convert answers.
type answer struct {
	b     api.Bits
	flags api.Flags
	e     api.Errno
}

func of(b api.Bits, flags api.Flags, e api.Errno) answer { return answer{b, flags, e} }

func (a answer) String() string {
	return fmt.Sprintf("%016x%016x, flags %d, %v", a.b.Hi, a.b.Lo, a.flags, a.e)
}

// bits is the encoding i with a sign.
func (l layout) bits(neg bool, i *big.Int) api.Bits {
	n := new(big.Int).Set(i)
	if neg {
		n.Add(n, power(l.w-1))
	}
	low := new(big.Int).Mod(n, power(64))
	return api.Bits{Hi: n.Rsh(n, 64).Uint64(), Lo: low.Uint64()}
}

// inf is the infinity's encoding: all ones in the field.
func (l layout) inf() *big.Int {
	return new(big.Int).Lsh(beside(power(l.w-l.p), -1), uint(l.p-1))
}

// encoding is that of a number which the format has; its magnitude has at most p bits, but for noughts behind them.
func (l layout) encoding(r *big.Int) api.Bits {
	size := new(big.Int).Abs(r)
	top := size.BitLen() - 1
	field := new(big.Int).Lsh(big.NewInt(int64(top+l.emax)), uint(l.p-1))
	fraction := size.Sub(size, power(top))
	fraction.Lsh(fraction, uint(l.p)).Rsh(fraction, uint(top+1))
	return l.bits(r.Sign() < 0, field.Add(field, fraction))
}

// neighbours are the numbers on the grid right below n and right above it, with their signs, as multiples of step; both are n, if it is on the grid.
func (l layout) neighbours(n *big.Int) (below, above, step *big.Int) {
	step = power(max(0, new(big.Int).Abs(n).BitLen()-l.p))
	below, rest := new(big.Int).DivMod(n, step, new(big.Int))
	if rest.Sign() == 0 {
		return below, below, step
	}
	return below, beside(below, 1), step
}

// chosen is the document's words of the modes, for two neighbours that are not n.
func chosen(m api.Mode, n, below, above, step *big.Int) *big.Int {
	toZero, away := below, above
	if n.Sign() < 0 {
		toZero, away = above, below
	}
	middle := new(big.Int).Add(below, above)
	half := new(big.Int).Lsh(n, 1).Cmp(middle.Mul(middle, step))
	switch {
	case m == api.ToZero:
		return toZero
	case m == api.Down:
		return below
	case m == api.Up:
		return above
	case half < 0:
		return below
	case half > 0:
		return above
	case m == api.NearAway:
		return away
	case below.Bit(0) == 0:
		return below
	}
	return above
}

// beyond is what is delivered where a number overflows.
func (l layout) beyond(m api.Mode, neg bool) answer {
	r := l.inf()
	if m == api.ToZero || m == api.Down && !neg || m == api.Up && neg {
		r = beside(r, -1)
	}
	return answer{b: l.bits(neg, r), flags: api.Inexact + api.Overflow}
}

// rounded is what is delivered of a number; whole ones are never tiny.
func (l layout) rounded(m api.Mode, n *big.Int) answer {
	if n.Sign() == 0 {
		return answer{}
	}
	below, above, step := l.neighbours(n)
	r := below
	if below != above {
		r = chosen(m, n, below, above, step)
	}
	r = new(big.Int).Mul(r, step)
	switch {
	case r.CmpAbs(power(l.emax+1)) >= 0:
		return l.beyond(m, n.Sign() < 0)
	case r.Cmp(n) != 0:
		return answer{b: l.encoding(r), flags: api.Inexact}
	}
	return answer{b: l.encoding(r)}
}

// wants are what Number and Convert, by each mode, answer.
func (l layout) wants(k span, x uint64) (size sized, list [5]answer) {
	n := k.number(x)
	for _, m := range modes {
		list[m] = l.rounded(m, n)
	}
	return sized{neg: n.Sign() < 0, n: new(big.Int).Abs(n).Uint64()}, list
}

// edges are words at the edges of what is read: about 0 and all powers of two, and the same numbers below 0.
func edges() []uint64 {
	var list []uint64
	for n := range 64 {
		for d := range uint64(7) {
			list = append(list, 1<<n+d-3, -(1<<n + d - 3))
		}
	}
	return list
}

// facing are words about where the format's steps come to 1 and beyond, and where it ends: at the neighbours, at the quarters between them, and right beside these.
func (l layout) facing() []uint64 {
	var list []uint64
	for top := l.p - 1; top < 64; top++ {
		step := uint64(1) << max(0, top-l.p+1)
		for _, at := range []uint64{1 << top, 1<<top + step, 1<<top + 1<<top>>1, 1<<top - step, 1<<top + (1<<top - step), 1<<top + (1<<top - 2*step)} {
			for quarter := range uint64(4) {
				for d := range uint64(3) {
					x := at + quarter*step/4 + d - 1
					list = append(list, x, -x)
				}
			}
		}
	}
	return list
}

// dirty is x with something above its lowest 32 bits, which W and WU are not to read.
func (s *source) dirty(x uint64) uint64 { return s.next()<<32 | x&(1<<32-1) }

// any is some word of any length, below 0 too; such as have few bits are among them.
func (s *source) any() uint64 {
	x := s.next() >> s.below(64)
	switch s.below(4) {
	case 0:
		x = s.next() & 7 << s.below(62)
	case 1:
		x = s.next()&7<<s.below(62) + s.next()&7<<s.below(62)
	}
	if s.below(2) == 0 {
		return -x
	}
	return x
}
