package encode

import (
	"fmt"
	"strings"

	"abacus/api"
)

// What the calls answer, so that it is held against what is wanted as a whole.
type told struct {
	w uint32
	e api.Errno
}

func (x told) String() string { return fmt.Sprintf("%08x, %v", x.w, x.e) }

func toTold(w uint32, e api.Errno) told { return told{w, e} }

// look is how the words of an Op look, written as manuals write it, from the highest bit on: d, a, b and c stand for rd, rs1, rs2 and rs3, u for a number in rs1's place, i for imm, m for a mode, n for a control register, f for the format, v for one that is not Quad, w for the format as a width, g for From, k for the kind.
type look struct {
	op   api.Op
	bits string
}

// The model goes by no table's row: it is the chapters' own lists.
var looks = []look{
	{api.Load, "iiiiiiiiiiii aaaaa www ddddd 0000111"},
	{api.Store, "iiiiiii bbbbb aaaaa www iiiii 0100111"},
	{api.MulAdd, "ccccc ff bbbbb aaaaa mmm ddddd 1000011"},
	{api.MulSub, "ccccc ff bbbbb aaaaa mmm ddddd 1000111"},
	{api.NegMulSub, "ccccc ff bbbbb aaaaa mmm ddddd 1001011"},
	{api.NegMulAdd, "ccccc ff bbbbb aaaaa mmm ddddd 1001111"},
	{api.Add, "00000 ff bbbbb aaaaa mmm ddddd 1010011"},
	{api.Sub, "00001 ff bbbbb aaaaa mmm ddddd 1010011"},
	{api.Mul, "00010 ff bbbbb aaaaa mmm ddddd 1010011"},
	{api.Div, "00011 ff bbbbb aaaaa mmm ddddd 1010011"},
	{api.Sqrt, "01011 ff 00000 aaaaa mmm ddddd 1010011"},
	{api.SignCopy, "00100 ff bbbbb aaaaa 000 ddddd 1010011"},
	{api.SignNot, "00100 ff bbbbb aaaaa 001 ddddd 1010011"},
	{api.SignXor, "00100 ff bbbbb aaaaa 010 ddddd 1010011"},
	{api.Min, "00101 ff bbbbb aaaaa 000 ddddd 1010011"},
	{api.Max, "00101 ff bbbbb aaaaa 001 ddddd 1010011"},
	{api.Convert, "01000 ff 000gg aaaaa mmm ddddd 1010011"},
	{api.Eq, "10100 ff bbbbb aaaaa 010 ddddd 1010011"},
	{api.Lt, "10100 ff bbbbb aaaaa 001 ddddd 1010011"},
	{api.Le, "10100 ff bbbbb aaaaa 000 ddddd 1010011"},
	{api.ToInt, "11000 ff 000kk aaaaa mmm ddddd 1010011"},
	{api.FromInt, "11010 ff 000kk aaaaa mmm ddddd 1010011"},
	{api.ToWord, "11100 vv 00000 aaaaa 000 ddddd 1010011"},
	{api.Classify, "11100 ff 00000 aaaaa 001 ddddd 1010011"},
	{api.OfWord, "11110 vv 00000 aaaaa 000 ddddd 1010011"},
	{api.CsrSwap, "nnnnnnnnnnnn aaaaa 001 ddddd 1110011"},
	{api.CsrSet, "nnnnnnnnnnnn aaaaa 010 ddddd 1110011"},
	{api.CsrClear, "nnnnnnnnnnnn aaaaa 011 ddddd 1110011"},
	{api.CsrSwapI, "nnnnnnnnnnnn uuuuu 101 ddddd 1110011"},
	{api.CsrSetI, "nnnnnnnnnnnn uuuuu 110 ddddd 1110011"},
	{api.CsrClearI, "nnnnnnnnnnnn uuuuu 111 ddddd 1110011"},
}

// widths are the formats' numbers as widths.
var widths = map[api.Form]uint32{api.Half: 1, api.Single: 2, api.Double: 3, api.Quad: 4}

// item is one of what an instruction has: the letters that may stand for it, what it is, and what stands for it in a word, if it may be.
type item struct {
	letters string
	n       int
	bits    func(letter byte) uint32
	may     func(letter byte) bool
}

func plain(letters string, n, least, most int) item {
	return item{
		letters: letters,
		n:       n,
		bits:    func(byte) uint32 { return uint32(n) },
		may:     func(byte) bool { return least <= n && n <= most },
	}
}

// items are all of x but its Op.
func items(x api.Inst) []item {
	rm := plain("m", int(x.Rm), 0, 7)
	rm.may = func(byte) bool { return x.Rm <= 4 || x.Rm == 7 }
	form := plain("fvw", int(x.Form), 0, 3)
	form.bits = func(letter byte) uint32 {
		if letter == 'w' {
			return widths[x.Form]
		}
		return uint32(x.Form)
	}
	form.may = func(letter byte) bool { return x.Form <= 3 && (letter != 'v' || x.Form != api.Quad) }
	from := plain("g", int(x.From), 0, 3)
	from.may = func(byte) bool { return x.From <= 3 && x.From != x.Form }
	return []item{
		form,
		from,
		rm,
		plain("k", int(x.Kind), 0, 3),
		plain("d", int(x.Rd), 0, 31),
		plain("au", int(x.Rs1), 0, 31),
		plain("b", int(x.Rs2), 0, 31),
		plain("c", int(x.Rs3), 0, 31),
		plain("i", int(x.Imm), -2048, 2047),
		plain("n", int(x.Csr), 1, 3),
	}
}

// lookOf is how words of o look: digits and letters alone; "", if there are none.
func lookOf(o api.Op) string {
	for _, l := range looks {
		if l.op == o {
			return strings.ReplaceAll(l.bits, " ", "")
		}
	}
	return ""
}

// modelEncode is what Encode answers.
func modelEncode(x api.Inst) told {
	bits := lookOf(x.Op)
	if bits == "" {
		return told{e: api.ErrInst}
	}
	for _, it := range items(x) {
		at := strings.IndexAny(bits, it.letters)
		if at < 0 && it.n != 0 || at >= 0 && !it.may(bits[at]) {
			return told{e: api.ErrInst}
		}
		if at >= 0 {
			bits = filled(bits, bits[at], it.bits(bits[at]))
		}
	}
	w := uint32(0)
	for _, c := range bits {
		w = w<<1 | uint32(c-'0')
	}
	return told{w: w}
}

// filled has n's bits where the letter stands, the lowest one last.
func filled(bits string, letter byte, n uint32) string {
	b := []byte(bits)
	for i := len(b) - 1; i >= 0; i-- {
		if b[i] == letter {
			b[i] = '0' + byte(n&1)
			n >>= 1
		}
	}
	return string(b)
}

// taken are the bits that the field of one of those letters takes in words of o.
func taken(o api.Op, letters string) uint32 {
	mask := uint32(0)
	for i, c := range lookOf(o) {
		if strings.ContainsRune(letters, c) {
			mask |= 1 << (31 - i)
		}
	}
	return mask
}

// row is what of an instruction its row has.
func row(x api.Inst) api.Inst {
	return api.Inst{Op: x.Op, Form: x.Form, From: x.From, Kind: x.Kind}
}

// rows are the least instructions of all rows, in the document's order.
func rows() []api.Inst {
	var out []api.Inst
	for _, l := range looks {
		for form := range api.Form(4) {
			for from := range api.Form(4) {
				for kind := range api.IntKind(4) {
					x := api.Inst{Op: l.op, Form: form, From: from, Kind: kind}
					if strings.Contains(l.bits, "n") {
						x.Csr = 1
					}
					if modelEncode(x).e == api.OK {
						out = append(out, x)
					}
				}
			}
		}
	}
	return out
}

// allRows are 136.
var allRows = rows()

// source is xorshift: the same numbers each time.
type source uint64

func (s *source) next() uint64 {
	x := uint64(*s)
	x ^= x << 13
	x ^= x >> 7
	x ^= x << 17
	*s = source(x)
	return x
}

// below is a number below n.
func (s *source) below(n int) int { return int(s.next() >> 9 % uint64(n)) }

// like is an instruction that may be, of the row that x is of.
func (s *source) like(x api.Inst) api.Inst {
	bits := lookOf(x.Op)
	y := row(x)
	has := func(letters string) bool { return strings.ContainsAny(bits, letters) }
	register := func(letters string) uint8 {
		if !has(letters) {
			return 0
		}
		return uint8(s.below(32))
	}
	y.Rd, y.Rs1, y.Rs2, y.Rs3 = register("d"), register("au"), register("b"), register("c")
	if has("m") {
		y.Rm = []uint8{0, 1, 2, 3, 4, 7}[s.below(6)]
	}
	if has("i") {
		y.Imm = int16(s.below(4096) - 2048)
	}
	if has("n") {
		y.Csr = uint8(1 + s.below(3))
	}
	return y
}

// good is an instruction that may be.
func (s *source) good() api.Inst { return s.like(allRows[s.below(len(allRows))]) }

// fields are what of x is told in numbers, each to be written over.
func fields(x *api.Inst) []*uint8 {
	return []*uint8{(*uint8)(&x.Op), (*uint8)(&x.Form), (*uint8)(&x.From), (*uint8)(&x.Kind), &x.Rd, &x.Rs1, &x.Rs2, &x.Rs3, &x.Rm, &x.Csr}
}

// turned is x with another number in one place.
func (s *source) turned(x api.Inst) api.Inst {
	l := fields(&x)
	at := s.below(len(l) + 1)
	switch {
	case at == len(l) && s.below(2) == 0:
		x.Imm ^= 1 << s.below(16)
	case at == len(l):
		x.Imm = int16(s.next() >> 9)
	case s.below(2) == 0:
		*l[at] ^= 1 << s.below(8)
	default:
		*l[at] = uint8(s.next() >> 9)
	}
	return x
}

// any is an instruction that may be, or one with up to two places turned.
func (s *source) any() api.Inst {
	x := s.good()
	for range s.below(3) {
		x = s.turned(x)
	}
	return x
}
