package decode

import (
	"strings"

	"abacus/api"
)

// What the calls answer, so that it is held against what is wanted as a whole.
type (
	told struct {
		x api.Inst
		e api.Errno
	}
	used struct {
		u api.Use
		e api.Errno
	}
	laid struct {
		l api.Layout
		e api.Errno
	}
	masked struct {
		mask uint32
		e    api.Errno
	}
)

func toTold(x api.Inst, e api.Errno) told { return told{x, e} }

func toUsed(u api.Use, e api.Errno) used { return used{u, e} }

func toLaid(l api.Layout, e api.Errno) laid { return laid{l, e} }

func toMasked(mask uint32, e api.Errno) masked { return masked{mask, e} }

// kindOfWord is how the words of an Op look, written as manuals write it, from the highest bit on: d, a, b and c stand for rd, rs1, rs2 and rs3, u for a number in rs1's place, i for imm, m for a mode, n for a control register, f for the format, w for the format as a width, g for From, k for the kind.
type kindOfWord struct {
	op     api.Op
	layout api.Layout
	bits   string
	use    string // what it reads and writes: registers of words and of 128 bits
}

// The model goes by no table's row: it is the chapters' own lists.
var book = []kindOfWord{
	{api.Load, api.LayLoad, "iiiiiiiiiiii aaaaa www ddddd 0000111", "xa -> fd"},
	{api.Store, api.LayStore, "iiiiiii bbbbb aaaaa www iiiii 0100111", "xa fb ->"},
	{api.MulAdd, api.LayFour, "ccccc ff bbbbb aaaaa mmm ddddd 1000011", "fa fb fc -> fd"},
	{api.MulSub, api.LayFour, "ccccc ff bbbbb aaaaa mmm ddddd 1000111", "fa fb fc -> fd"},
	{api.NegMulSub, api.LayFour, "ccccc ff bbbbb aaaaa mmm ddddd 1001011", "fa fb fc -> fd"},
	{api.NegMulAdd, api.LayFour, "ccccc ff bbbbb aaaaa mmm ddddd 1001111", "fa fb fc -> fd"},
	{api.Add, api.LayThreeM, "00000 ff bbbbb aaaaa mmm ddddd 1010011", "fa fb -> fd"},
	{api.Sub, api.LayThreeM, "00001 ff bbbbb aaaaa mmm ddddd 1010011", "fa fb -> fd"},
	{api.Mul, api.LayThreeM, "00010 ff bbbbb aaaaa mmm ddddd 1010011", "fa fb -> fd"},
	{api.Div, api.LayThreeM, "00011 ff bbbbb aaaaa mmm ddddd 1010011", "fa fb -> fd"},
	{api.Sqrt, api.LayTwoM, "01011 ff 00000 aaaaa mmm ddddd 1010011", "fa -> fd"},
	{api.SignCopy, api.LayThree, "00100 ff bbbbb aaaaa 000 ddddd 1010011", "fa fb -> fd"},
	{api.SignNot, api.LayThree, "00100 ff bbbbb aaaaa 001 ddddd 1010011", "fa fb -> fd"},
	{api.SignXor, api.LayThree, "00100 ff bbbbb aaaaa 010 ddddd 1010011", "fa fb -> fd"},
	{api.Min, api.LayThree, "00101 ff bbbbb aaaaa 000 ddddd 1010011", "fa fb -> fd"},
	{api.Max, api.LayThree, "00101 ff bbbbb aaaaa 001 ddddd 1010011", "fa fb -> fd"},
	{api.Convert, api.LayTwoM, "01000 ff 000gg aaaaa mmm ddddd 1010011", "fa -> fd"},
	{api.Eq, api.LayThree, "10100 ff bbbbb aaaaa 010 ddddd 1010011", "fa fb -> xd"},
	{api.Lt, api.LayThree, "10100 ff bbbbb aaaaa 001 ddddd 1010011", "fa fb -> xd"},
	{api.Le, api.LayThree, "10100 ff bbbbb aaaaa 000 ddddd 1010011", "fa fb -> xd"},
	{api.ToInt, api.LayTwoM, "11000 ff 000kk aaaaa mmm ddddd 1010011", "fa -> xd"},
	{api.FromInt, api.LayTwoM, "11010 ff 000kk aaaaa mmm ddddd 1010011", "xa -> fd"},
	{api.ToWord, api.LayTwo, "11100 ff 00000 aaaaa 000 ddddd 1010011", "fa -> xd"},
	{api.Classify, api.LayTwo, "11100 ff 00000 aaaaa 001 ddddd 1010011", "fa -> xd"},
	{api.OfWord, api.LayTwo, "11110 ff 00000 aaaaa 000 ddddd 1010011", "xa -> fd"},
	{api.CsrSwap, api.LayCsr, "nnnnnnnnnnnn aaaaa 001 ddddd 1110011", "xa -> xd"},
	{api.CsrSet, api.LayCsr, "nnnnnnnnnnnn aaaaa 010 ddddd 1110011", "xa -> xd"},
	{api.CsrClear, api.LayCsr, "nnnnnnnnnnnn aaaaa 011 ddddd 1110011", "xa -> xd"},
	{api.CsrSwapI, api.LayCsrI, "nnnnnnnnnnnn uuuuu 101 ddddd 1110011", "-> xd"},
	{api.CsrSetI, api.LayCsrI, "nnnnnnnnnnnn uuuuu 110 ddddd 1110011", "-> xd"},
	{api.CsrClearI, api.LayCsrI, "nnnnnnnnnnnn uuuuu 111 ddddd 1110011", "-> xd"},
}

// widths are the formats by the number that stands for a width.
var widths = map[uint32]api.Form{1: api.Half, 2: api.Single, 3: api.Double, 4: api.Quad}

// looks are the kinds of words with what in them is fixed.
var looks = fixedBits()

type look struct {
	kindOfWord
	mask, match uint32
}

func fixedBits() []look {
	var out []look
	for _, k := range book {
		k.bits = strings.ReplaceAll(k.bits, " ", "")
		if len(k.bits) != 32 {
			panic(k.bits)
		}
		l := look{kindOfWord: k}
		for i, c := range k.bits {
			at := uint32(1) << (31 - i)
			if c == '0' || c == '1' {
				l.mask |= at
			}
			if c == '1' {
				l.match |= at
			}
		}
		out = append(out, l)
	}
	return out
}

// field is the number that stands in w for a letter; 0, if it has no place.
func (l look) field(letter byte, w uint32) uint32 {
	n := uint32(0)
	for i := range 32 {
		if l.bits[i] == letter {
			n = n<<1 | w>>(31-i)&1
		}
	}
	return n
}

func (l look) has(letter string) bool { return strings.Contains(l.bits, letter) }

// open takes w apart, the fixed bits of which are right.
func (l look) open(w uint32) (x api.Inst, is bool) {
	x = api.Inst{
		Op: l.op, Form: api.Form(l.field('f', w)), From: api.Form(l.field('g', w)), Kind: api.IntKind(l.field('k', w)),
		Rd: uint8(l.field('d', w)), Rs1: uint8(l.field('a', w) + l.field('u', w)), Rs2: uint8(l.field('b', w)), Rs3: uint8(l.field('c', w)),
		Rm: uint8(l.field('m', w)), Csr: uint8(l.field('n', w) % 256),
	}
	imm := int(l.field('i', w))
	if imm >= 2048 {
		imm -= 4096
	}
	x.Imm = int16(imm)
	is = x.Rm != 5 && x.Rm != 6
	if l.has("w") {
		var known bool
		x.Form, known = widths[l.field('w', w)]
		is = is && known
	}
	if l.has("n") {
		n := l.field('n', w)
		is = is && n >= 1 && n <= 3
	}
	switch l.op {
	case api.Convert:
		is = is && x.From != x.Form
	case api.ToWord, api.OfWord:
		is = is && x.Form != api.Quad
	}
	return x, is
}

// find is how w looks, and the instruction that it is.
func find(w uint32) (l look, x api.Inst, is bool) {
	for _, l := range looks {
		if w&l.mask == l.match {
			if x, is := l.open(w); is {
				return l, x, true
			}
		}
	}
	return look{}, api.Inst{}, false
}

// modelDecode is what Decode answers.
func modelDecode(w uint32) told {
	_, x, is := find(w)
	if !is {
		return told{e: api.ErrIllegal}
	}
	return told{x: x}
}

// modelUses is what Uses answers: the letters of what is used name the fields.
func modelUses(w uint32) used {
	l, _, is := find(w)
	if !is {
		return used{e: api.ErrIllegal}
	}
	var out used
	reads := true
	for _, s := range strings.Fields(l.use) {
		if s == "->" {
			reads = false
			continue
		}
		one := uint32(1) << l.field(s[1], w)
		switch {
		case reads && s[0] == 'x':
			out.u.ReadX |= one
		case reads:
			out.u.ReadF |= one
		case s[0] == 'x':
			out.u.WriteX |= one
		default:
			out.u.WriteF |= one
		}
	}
	return out
}

// row is what of an instruction its row has.
func row(x api.Inst) api.Inst {
	return api.Inst{Op: x.Op, Form: x.Form, From: x.From, Kind: x.Kind}
}

// modelSame is what Same answers.
func modelSame(v, w uint32) masked {
	l, x, isOne := find(v)
	_, y, isOther := find(w)
	if !isOne || !isOther {
		return masked{e: api.ErrIllegal}
	}
	if row(x) != row(y) {
		return masked{e: api.ErrArg}
	}
	var out masked
	for i := range 32 {
		if strings.Contains("dabcuimn", l.bits[i:i+1]) {
			out.mask |= 1 << (31 - i)
		}
	}
	return out
}

// put is w with n where a letter stands.
func (l look) put(w uint32, letter byte, n uint32) uint32 {
	for i := 31; i >= 0; i-- {
		if l.bits[i] == letter {
			w = w&^(1<<(31-i)) | n&1<<(31-i)
			n >>= 1
		}
	}
	return w
}

// word is the word of an instruction that may be.
func word(x api.Inst) uint32 {
	var l look
	for _, k := range looks {
		if k.op == x.Op {
			l = k
		}
	}
	w := l.match
	for width, f := range widths {
		if f == x.Form {
			w = l.put(w, 'w', width)
		}
	}
	w = l.put(w, 'f', uint32(x.Form))
	w = l.put(w, 'g', uint32(x.From))
	w = l.put(w, 'k', uint32(x.Kind))
	w = l.put(w, 'd', uint32(x.Rd))
	w = l.put(w, 'a', uint32(x.Rs1))
	w = l.put(w, 'u', uint32(x.Rs1))
	w = l.put(w, 'b', uint32(x.Rs2))
	w = l.put(w, 'c', uint32(x.Rs3))
	w = l.put(w, 'm', uint32(x.Rm))
	w = l.put(w, 'n', uint32(x.Csr))
	return l.put(w, 'i', uint32(x.Imm))
}

// source is xorshift: the same numbers each time.
type source uint64

func (s *source) next() uint64 {
	x := uint64(*s)
	x ^= x << 13
	x ^= x >> 7
	x ^= x << 17
	*s = source(x)
	return x
}

// legal is a word that is an instruction, most often one that looks like l; its fields have what they may.
func (s *source) legal(l look) uint32 {
	for {
		w := l.match | uint32(s.next()>>11)&^l.mask
		if l.has("n") {
			w = l.put(w, 'n', 1+uint32(s.next()%3))
		}
		if _, _, is := find(w); is {
			return w
		}
	}
}

// any is a word: an instruction, one with a bit turned, or what comes.
func (s *source) any() uint32 {
	w := s.legal(looks[s.next()%uint64(len(looks))])
	switch s.next() % 4 {
	case 0:
		return w ^ 1<<(s.next()%32)
	case 1:
		return uint32(s.next() >> 9)
	default:
		return w
	}
}
