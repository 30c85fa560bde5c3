package round

import (
	"fmt"
	"math/big"

	"abacus/api"
)

// layout is the document's table of the formats, so that what is expected hangs on no layer of the program.
type layout struct {
	form api.Form
	w, p int
	emax int
}

var layouts = []layout{
	{api.Half, 16, 11, 15},
	{api.Single, 32, 24, 127},
	{api.Double, 64, 53, 1023},
	{api.Quad, 128, 113, 16383},
}

var modes = []api.Mode{api.NearEven, api.ToZero, api.Down, api.Up, api.NearAway}

var signs = []bool{false, true}

func (l layout) emin() int { return 1 - l.emax }

// source is xorshift: the same numbers each time.
type source uint64

func (s *source) next() uint64 {
	x := uint64(*s)
	x ^= x << 13
	x ^= x >> 7
	x ^= x << 17
	*s = source(x)
	return x
}

func (s *source) below(n int) int { return int(s.next() >> 24 % uint64(n)) }

// bits is a number of at most n bits.
func (s *source) bits(n int) *big.Int {
	x := new(big.Int)
	for range n/64 + 1 {
		x.Lsh(x, 64).Add(x, new(big.Int).SetUint64(s.next()))
	}
	return x.Mod(x, power(n))
}

func power(n int) *big.Int { return new(big.Int).Lsh(big.NewInt(1), uint(n)) }

func small(x int64) *big.Int { return big.NewInt(x) }

func add(a *big.Int, x int64) *big.Int { return new(big.Int).Add(a, big.NewInt(x)) }

func sum(a, b *big.Int) *big.Int { return new(big.Int).Add(a, b) }

func raise(a *big.Int, n int) *big.Int { return new(big.Int).Lsh(a, uint(n)) }

// magnitude is n times 2^e, above 0.
type magnitude struct {
	n *big.Int
	e int
}

func (x magnitude) String() string { return fmt.Sprintf("%xp%d", x.n, x.e) }

// cmp is -1, 0, 1, as it is below n times 2^e, is that, is above. The highest bits' places come first, so that far numbers need no long shifts.
func (x magnitude) cmp(n *big.Int, e int) int {
	if d := x.n.BitLen() + x.e - n.BitLen() - e; n.Sign() == 0 || d > 0 {
		return 1
	} else if d < 0 {
		return -1
	}
	if x.e > e {
		return raise(x.n, x.e-e).Cmp(n)
	}
	return x.n.Cmp(raise(n, e-x.e))
}

// value is the magnitude of the encoding i without a sign, as n times 2^e; of the infinity it is 2^(emax+1).
func (l layout) value(i *big.Int) (n *big.Int, e int) {
	field := int(new(big.Int).Rsh(i, uint(l.p-1)).Int64())
	fraction := new(big.Int).Mod(i, power(l.p-1))
	if field == 0 {
		return fraction, l.emin() - l.p + 1
	}
	return fraction.Add(fraction, power(l.p-1)), field - l.emax - l.p + 1
}

// inf is the infinity's encoding: all ones in the field.
func (l layout) inf() *big.Int { return raise(add(power(l.w-l.p), -1), l.p-1) }

func (l layout) bits(neg bool, i *big.Int) api.Bits {
	n := new(big.Int).Set(i)
	if neg {
		n.Add(n, power(l.w-1))
	}
	low := new(big.Int).Mod(n, power(64))
	return api.Bits{Hi: n.Rsh(n, 64).Uint64(), Lo: low.Uint64()}
}

// search is the greatest encoding not above x, up to the infinity's.
func (l layout) search(x magnitude) *big.Int {
	low, high := new(big.Int), add(l.inf(), 1)
	for {
		middle := sum(low, high)
		middle.Rsh(middle, 1)
		if middle.Cmp(low) == 0 {
			return low
		}
		if x.cmp(l.value(middle)) >= 0 {
			low = middle
		} else {
			high = middle
		}
	}
}

// goesUp is the document's words of the modes, of a number between two neighbours.
func goesUp(m api.Mode, neg, odd bool, half int) bool {
	switch m {
	case api.ToZero:
		return false
	case api.Down:
		return neg
	case api.Up:
		return !neg
	case api.NearEven:
		return half > 0 || half == 0 && odd
	}
	return half >= 0
}

// tiny: below 2^emin, and not rounded to it where the step is that of the numbers just below it.
func (l layout) tiny(m api.Mode, neg bool, x magnitude) bool {
	if x.cmp(small(1), l.emin()) >= 0 {
		return false
	}
	last := add(power(l.p), -1)
	if x.cmp(last, l.emin()-l.p) <= 0 {
		return true
	}
	half := x.cmp(add(raise(last, 1), 1), l.emin()-l.p-1)
	return !goesUp(m, neg, true, half)
}

// answer is what Pack and Over answer.
type answer struct {
	b     api.Bits
	flags api.Flags
	e     api.Errno
}

func of(b api.Bits, flags api.Flags, e api.Errno) answer { return answer{b, flags, e} }

func (a answer) String() string {
	return fmt.Sprintf("%016x%016x, flags %d, %v", a.b.Hi, a.b.Lo, a.flags, a.e)
}

// spot is where a magnitude stands among those of a format: low is the encoding at it or below it.
type spot struct {
	l    layout
	x    magnitude
	low  *big.Int
	is   bool
	half int
}

func (l layout) spot(x magnitude) spot {
	low := l.search(x)
	n, e := l.value(low)
	return spot{l, x, low, x.cmp(n, e) == 0, x.cmp(add(raise(n, 1), 1), e-1)}
}

// beyond is what is delivered where a number overflows.
func (l layout) beyond(m api.Mode, neg bool) answer {
	r := l.inf()
	if m == api.ToZero || m == api.Down && !neg || m == api.Up && neg {
		r = add(r, -1)
	}
	return answer{b: l.bits(neg, r), flags: api.Inexact + api.Overflow}
}

// want is what is delivered by a mode.
func (s spot) want(m api.Mode, neg bool) answer {
	r := s.low
	if !s.is && goesUp(m, neg, r.Bit(0) == 1, s.half) {
		r = add(r, 1)
	}
	switch {
	case r.Cmp(s.l.inf()) >= 0:
		return s.l.beyond(m, neg)
	case s.is:
		return answer{b: s.l.bits(neg, r)}
	case s.l.tiny(m, neg, s.x):
		return answer{b: s.l.bits(neg, r), flags: api.Inexact + api.Underflow}
	}
	return answer{b: s.l.bits(neg, r), flags: api.Inexact}
}

// rough is a number of at most 384 bits as Pack takes it.
func rough(x magnitude) api.Rough {
	r := api.Rough{Exp: x.e}
	n := new(big.Int).Set(x.n)
	for i := range r.Sig {
		r.Sig[i] = new(big.Int).Mod(n, power(64)).Uint64()
		n.Rsh(n, 64)
	}
	if n.Sign() != 0 {
		panic("more than 384 bits")
	}
	return r
}

// within are magnitudes for which x stands if it is More: near both its ends, and in the middle.
func within(x magnitude) []magnitude {
	const far = 300
	return []magnitude{
		{add(raise(x.n, 1), 1), x.e - 1},
		{add(raise(x.n, far), 1), x.e - far},
		{add(raise(add(x.n, 1), far), -1), x.e - far},
	}
}

// indices are encodings at the edges of a format, and some others.
func (l layout) indices() []*big.Int {
	var list []*big.Int
	edges := []*big.Int{small(2), power(l.p - 2), power(l.p - 1), power(l.p), add(l.inf(), -1), raise(small(int64(l.emax)), l.p-1)}
	for _, i := range edges {
		for d := range int64(4) {
			list = append(list, add(i, d-2))
		}
	}
	s := source(l.w)
	for range 12 {
		list = append(list, s.bits(l.w-2), s.bits(l.p), s.bits(1+s.below(l.w-2)))
	}
	return list
}

// finer are numbers at n times 2^e, and right beside it, and right at the middle to the next one, each of k bits more.
func finer(n *big.Int, e, k int) []magnitude {
	var list []magnitude
	at := raise(n, k)
	middle := sum(at, power(k-1))
	for d := range int64(5) {
		list = append(list, magnitude{add(at, d-2), e - k}, magnitude{add(middle, d-2), e - k})
	}
	return list
}

// around are numbers at n times 2^e and near it, from as few bits on as may be to all 384.
func (l layout) around(n *big.Int, e int) []magnitude {
	list := []magnitude{{n, e}, {add(raise(n, 1), 1), e - 1}}
	fewest := max(l.p+2-n.BitLen(), 2)
	for _, k := range []int{2, fewest, fewest + 1, 66, 384 - n.BitLen()} {
		if n.BitLen()+k <= 384 {
			list = append(list, finer(n, e, k)...)
		}
	}
	return list
}

// numbers are numbers at the edges of a format, and some others, all above 0 and of at most 384 bits.
func (l layout) numbers() []magnitude {
	var list []magnitude
	for _, i := range l.indices() {
		list = append(list, l.around(l.value(i))...)
	}
	// Where it is told whether a number is tiny: one bit below the least normal number's step, and one more for halves.
	for d := range int64(5) {
		list = append(list, l.around(add(power(l.p), d-3), l.emin()-l.p)...)
		list = append(list, l.around(add(power(l.p+1), d-3), l.emin()-l.p-1)...)
	}
	// Around halves and quarters of the least number, and beyond the greatest.
	for n := range int64(9) {
		list = append(list, l.around(small(n), l.emin()-l.p-2)...)
		list = append(list, l.around(small(n), l.emax)...)
	}
	return above0(list)
}

func above0(list []magnitude) []magnitude {
	var out []magnitude
	for _, x := range list {
		if x.n.Sign() > 0 && x.n.BitLen() <= 384 {
			out = append(out, x)
		}
	}
	return out
}
