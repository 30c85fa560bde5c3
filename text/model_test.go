package text

import (
	"fmt"
	"regexp"
	"strings"

	"abacus/api"
	"abacus/decode"
	"abacus/encode"
)

// What the calls answer, so that it is held against what is wanted as a whole.
type (
	said struct {
		s string
		e api.Errno
	}
	inst struct {
		x api.Inst
		e api.Errno
	}
	coded struct {
		w uint32
		e api.Errno
	}
	moded struct {
		rm uint8
		e  api.Errno
	}
	bytesRead struct {
		b  string
		at int
		e  api.Errno
	}
)

func (x said) String() string      { return fmt.Sprintf("%q, %v", x.s, x.e) }
func (x inst) String() string      { return fmt.Sprintf("%+v, %v", x.x, x.e) }
func (x coded) String() string     { return fmt.Sprintf("%08x, %v", x.w, x.e) }
func (x moded) String() string     { return fmt.Sprintf("%d, %v", x.rm, x.e) }
func (x bytesRead) String() string { return fmt.Sprintf("%x, %d, %v", x.b, x.at, x.e) }

func toSaid(s string, e api.Errno) said               { return said{s, e} }
func toInst(x api.Inst, e api.Errno) inst             { return inst{x, e} }
func toCoded(w uint32, e api.Errno) coded             { return coded{w, e} }
func toModed(rm uint8, e api.Errno) moded             { return moded{rm, e} }
func toBytes(b []byte, at int, e api.Errno) bytesRead { return bytesRead{string(b), at, e} }

var noLine = inst{e: api.ErrLine}

// look is how texts of an Op look, as the chapters list them: the capitals stand for what marks say.
type look struct {
	op      api.Op
	pattern string
}

// The model goes by no row of the table, and by no register's name of a lower layer.
var looks = []look{
	{api.Load, "flW fD, I(xA)"},
	{api.Store, "fsW fB, I(xA)"},
	{api.MulAdd, "fmadd.F fD, fA, fB, fC, M"},
	{api.MulSub, "fmsub.F fD, fA, fB, fC, M"},
	{api.NegMulSub, "fnmsub.F fD, fA, fB, fC, M"},
	{api.NegMulAdd, "fnmadd.F fD, fA, fB, fC, M"},
	{api.Add, "fadd.F fD, fA, fB, M"},
	{api.Sub, "fsub.F fD, fA, fB, M"},
	{api.Mul, "fmul.F fD, fA, fB, M"},
	{api.Div, "fdiv.F fD, fA, fB, M"},
	{api.Sqrt, "fsqrt.F fD, fA, M"},
	{api.SignCopy, "fsgnj.F fD, fA, fB"},
	{api.SignNot, "fsgnjn.F fD, fA, fB"},
	{api.SignXor, "fsgnjx.F fD, fA, fB"},
	{api.Min, "fmin.F fD, fA, fB"},
	{api.Max, "fmax.F fD, fA, fB"},
	{api.Convert, "fcvt.F.G fD, fA, M"},
	{api.Eq, "feq.F xD, fA, fB"},
	{api.Lt, "flt.F xD, fA, fB"},
	{api.Le, "fle.F xD, fA, fB"},
	{api.ToInt, "fcvt.K.F xD, fA, M"},
	{api.FromInt, "fcvt.F.K fD, xA, M"},
	{api.ToWord, "fmv.x.V xD, fA"},
	{api.Classify, "fclass.F xD, fA"},
	{api.OfWord, "fmv.V.x fD, xA"},
	{api.CsrSwap, "csrrw xD, N, xA"},
	{api.CsrSet, "csrrs xD, N, xA"},
	{api.CsrClear, "csrrc xD, N, xA"},
	{api.CsrSwapI, "csrrwi xD, N, A"},
	{api.CsrSetI, "csrrsi xD, N, A"},
	{api.CsrClearI, "csrrci xD, N, A"},
}

// mark is what a capital stands for: a field, and the words of the numbers that the field may have.
type mark struct {
	get   func(x api.Inst) int
	set   func(x *api.Inst, n int)
	words map[int]string
}

// byteMarked is of a field that has a byte.
func byteMarked(field func(x *api.Inst) *uint8, words map[int]string) mark {
	return mark{
		get:   func(x api.Inst) int { return int(*field(&x)) },
		set:   func(x *api.Inst, n int) { *field(x) = uint8(n) },
		words: words,
	}
}

// numbers are words of digits.
func numbers(least, most int) map[int]string {
	words := map[int]string{}
	for n := least; n <= most; n++ {
		words[n] = fmt.Sprint(n)
	}
	return words
}

func listed(words ...string) map[int]string {
	m := map[int]string{}
	for n, w := range words {
		m[n] = w
	}
	return m
}

func form(x *api.Inst) *uint8 { return (*uint8)(&x.Form) }

var marks = map[rune]mark{
	'F': byteMarked(form, listed("s", "d", "h", "q")),
	'V': byteMarked(form, listed("w", "d", "h")),
	'W': byteMarked(form, listed("w", "d", "h", "q")),
	'G': byteMarked(func(x *api.Inst) *uint8 { return (*uint8)(&x.From) }, listed("s", "d", "h", "q")),
	'K': byteMarked(func(x *api.Inst) *uint8 { return (*uint8)(&x.Kind) }, listed("w", "wu", "l", "lu")),
	'D': byteMarked(func(x *api.Inst) *uint8 { return &x.Rd }, numbers(0, 31)),
	'A': byteMarked(func(x *api.Inst) *uint8 { return &x.Rs1 }, numbers(0, 31)),
	'B': byteMarked(func(x *api.Inst) *uint8 { return &x.Rs2 }, numbers(0, 31)),
	'C': byteMarked(func(x *api.Inst) *uint8 { return &x.Rs3 }, numbers(0, 31)),
	'M': byteMarked(func(x *api.Inst) *uint8 { return &x.Rm }, map[int]string{0: "rne", 1: "rtz", 2: "rdn", 3: "rup", 4: "rmm", 7: "dyn"}),
	'N': byteMarked(func(x *api.Inst) *uint8 { return &x.Csr }, map[int]string{1: "fflags", 2: "frm", 3: "fcsr"}),
	'I': {
		get:   func(x api.Inst) int { return int(x.Imm) },
		set:   func(x *api.Inst, n int) { x.Imm = int16(n) },
		words: numbers(-2048, 2047),
	},
}

func isCapital(c rune) bool { return c >= 'A' && c <= 'Z' }

// patternOf is how texts of o look; "", if there are none.
func patternOf(o api.Op) string {
	for _, l := range looks {
		if l.op == o {
			return l.pattern
		}
	}
	return ""
}

// modelText is what Text answers.
func modelText(x api.Inst) said {
	pattern := patternOf(x.Op)
	if pattern == "" || x.Op == api.Convert && x.From == x.Form {
		return said{e: api.ErrInst}
	}
	y := api.Inst{Op: x.Op}
	s := ""
	for _, c := range pattern {
		if !isCapital(c) {
			s += string(c)
			continue
		}
		m := marks[c]
		word, is := m.words[m.get(x)]
		if !is {
			return said{e: api.ErrInst}
		}
		m.set(&y, m.get(x))
		s += word
	}
	// What no capital stands for is 0.
	if y != x {
		return said{e: api.ErrInst}
	}
	return said{s: s}
}

// reading is the form of texts of an Op, and its capitals in their order.
type reading struct {
	op       api.Op
	form     *regexp.Regexp
	capitals []rune
}

func readings() []reading {
	var out []reading
	for _, l := range looks {
		r := reading{op: l.op}
		form := `\A`
		for _, c := range l.pattern {
			if isCapital(c) {
				r.capitals = append(r.capitals, c)
				form += `([a-z0-9-]+)`
			} else {
				form += regexp.QuoteMeta(string(c))
			}
		}
		r.form = regexp.MustCompile(form + `\z`)
		out = append(out, r)
	}
	return out
}

var allReadings = readings()

// numbersOf are the words' numbers, by the words of each capital.
var numbersOf = turned()

func turned() map[rune]map[string]int {
	out := map[rune]map[string]int{}
	for c, m := range marks {
		out[c] = map[string]int{}
		for n, word := range m.words {
			out[c][word] = n
		}
	}
	return out
}

// modelRead is what Read answers.
func modelRead(s string) inst {
next:
	for _, r := range allReadings {
		found := r.form.FindStringSubmatch(s)
		if found == nil {
			continue
		}
		x := api.Inst{Op: r.op}
		for i, c := range r.capitals {
			n, is := numbersOf[c][found[i+1]]
			if !is {
				continue next
			}
			marks[c].set(&x, n)
		}
		if x.Op != api.Convert || x.From != x.Form {
			return inst{x: x}
		}
	}
	return noLine
}

// modelWord is what Word answers.
func modelWord(w uint32) string {
	x, e := decode.Decode(w)
	if e != api.OK {
		return fmt.Sprintf(".word %08x", w)
	}
	return modelText(x).s
}

var wordLine = regexp.MustCompile(`\A\.word ([0-9a-f]{8})\z`)

// modelReadWord is what ReadWord answers.
func modelReadWord(s string) coded {
	if found := wordLine.FindStringSubmatch(s); found != nil {
		var w uint32
		fmt.Sscanf(found[1], "%x", &w)
		if _, e := decode.Decode(w); e != api.OK {
			return coded{w: w}
		}
		return coded{e: api.ErrLine}
	}
	x := modelRead(s)
	if x.e != api.OK {
		return coded{e: x.e}
	}
	return toCoded(encode.Encode(x.x))
}

// modelList is what List answers of bytes that are not too many.
func modelList(b []byte) []string {
	var l []string
	for at := 0; at < len(b); {
		if at+4 <= len(b) {
			w := uint32(b[at]) | uint32(b[at+1])<<8 | uint32(b[at+2])<<16 | uint32(b[at+3])<<24
			l = append(l, fmt.Sprintf("%06x %s", at, modelWord(w)))
			at += 4
		} else {
			l = append(l, fmt.Sprintf("%06x .byte %02x", at, b[at]))
			at++
		}
	}
	return l
}

// row is what of an instruction its row has.
func row(x api.Inst) api.Inst {
	return api.Inst{Op: x.Op, Form: x.Form, From: x.From, Kind: x.Kind}
}

// rows are the least instructions of all rows.
func rows() []api.Inst {
	var out []api.Inst
	for _, l := range looks {
		for form := range api.Form(4) {
			for from := range api.Form(4) {
				for kind := range api.IntKind(4) {
					x := api.Inst{Op: l.op, Form: form, From: from, Kind: kind}
					if strings.Contains(l.pattern, "N") {
						x.Csr = 1
					}
					if modelText(x).e == api.OK {
						out = append(out, x)
					}
				}
			}
		}
	}
	return out
}

// allRows are 136.
var allRows = rows()

// source is xorshift: the same numbers each time.
type source uint64

func (s *source) next() uint64 {
	x := uint64(*s)
	x ^= x << 13
	x ^= x >> 7
	x ^= x << 17
	*s = source(x)
	return x
}

// below is a number below n.
func (s *source) below(n int) int { return int(s.next() >> 9 % uint64(n)) }

// like is an instruction that may be, of the row that x is of.
func (s *source) like(x api.Inst) api.Inst {
	y := row(x)
	for _, c := range patternOf(x.Op) {
		if !isCapital(c) || strings.ContainsRune("FVWGK", c) {
			continue
		}
		n := 0
		switch c {
		case 'I':
			n = s.below(4096) - 2048
		case 'M':
			n = []int{0, 1, 2, 3, 4, 7}[s.below(6)]
		case 'N':
			n = 1 + s.below(3)
		default:
			n = s.below(32)
		}
		marks[c].set(&y, n)
	}
	return y
}

// good is an instruction that may be.
func (s *source) good() api.Inst { return s.like(allRows[s.below(len(allRows))]) }

// fields are what of x is told in bytes, each to be written over.
func fields(x *api.Inst) []*uint8 {
	return []*uint8{(*uint8)(&x.Op), (*uint8)(&x.Form), (*uint8)(&x.From), (*uint8)(&x.Kind), &x.Rd, &x.Rs1, &x.Rs2, &x.Rs3, &x.Rm, &x.Csr}
}

// any is an instruction that may be, or one with up to two places turned.
func (s *source) any() api.Inst {
	x := s.good()
	for range s.below(3) {
		l := fields(&x)
		switch at := s.below(len(l) + 1); {
		case at == len(l):
			x.Imm ^= 1 << s.below(16)
		case s.below(2) == 0:
			*l[at] ^= 1 << s.below(8)
		default:
			*l[at] = uint8(s.next() >> 9)
		}
	}
	return x
}

// word is an instruction's, or one in which a bit or two are turned, or any.
func (s *source) word() uint32 {
	switch s.below(4) {
	case 0:
		return uint32(s.next() >> 9)
	case 1:
		return uint32(s.next()>>9)&^127 | []uint32{0x07, 0x27, 0x43, 0x47, 0x4b, 0x4f, 0x53, 0x73}[s.below(8)]
	default:
		w, _ := encode.Encode(s.good())
		for range s.below(3) {
			w ^= 1 << s.below(32)
		}
		return w
	}
}

// alphabet has what texts have, and what they have not.
var alphabet = strings.Split("abcdefghijklmnopqrstuvwxyz0123456789 ,.()-+_ADFRSWX\t\n\x00é", "")

// damaged is the text with one thing that is another.
func (s *source) damaged(text string) string {
	at := s.below(len(text) + 1)
	end := min(at+1, len(text))
	letter := alphabet[s.below(len(alphabet))]
	switch s.below(8) {
	case 0:
		return text[:at] + text[end:]
	case 1:
		return text[:at] + letter + text[at:]
	case 2:
		return text[:at] + letter + text[end:]
	case 3:
		return text[:at] + text[at:end] + text[at:]
	case 4:
		return text[:at]
	case 5:
		return text[at:]
	case 6:
		return strings.ToUpper(text[:at]) + text[at:]
	default:
		return s.mixed(text)
	}
}

// mixed has a word of the text replaced by one of another instruction's.
func (s *source) mixed(text string) string {
	words := regexp.MustCompile(`[^ ,()]+`)
	other := words.FindAllString(modelText(s.good()).s, -1)
	spans := words.FindAllStringIndex(text, -1)
	if len(spans) == 0 {
		return other[0]
	}
	span := spans[s.below(len(spans))]
	return text[:span[0]] + other[s.below(len(other))] + text[span[1]:]
}
