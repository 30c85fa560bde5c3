package table

import (
	"fmt"
	"strings"

	"abacus/api"
)

// What the calls answer, so that it is held against what is wanted as a whole.
type (
	found struct {
		row api.Row
		is  bool
	}
	told struct {
		row api.Row
		e   api.Errno
	}
	called struct {
		name string
		e    api.Errno
	}
)

func toFound(r api.Row, is bool) found { return found{r, is} }

func toTold(r api.Row, e api.Errno) told { return told{r, e} }

func toCalled(s string, e api.Errno) called { return called{s, e} }

// entry is a row of the model: its name, and its word's bits from the highest on as a text, in which letters stand for what the instruction has of its own: m a mode, n a control register.
type entry struct {
	row  api.Row
	name string
	bits string
}

// The model is the document's table, written as manuals write it: from the highest bit on, ff for fmt, www for a width, gg for From, kk for the kind.
var book = []struct {
	op     api.Op
	layout api.Layout
	name   string
	bits   string
}{
	{api.Load, api.LayLoad, "fl{w}", "iiiiiiiiiiii aaaaa www ddddd 0000111"},
	{api.Store, api.LayStore, "fs{w}", "iiiiiii bbbbb aaaaa www iiiii 0100111"},
	{api.MulAdd, api.LayFour, "fmadd.{f}", "ccccc ff bbbbb aaaaa mmm ddddd 1000011"},
	{api.MulSub, api.LayFour, "fmsub.{f}", "ccccc ff bbbbb aaaaa mmm ddddd 1000111"},
	{api.NegMulSub, api.LayFour, "fnmsub.{f}", "ccccc ff bbbbb aaaaa mmm ddddd 1001011"},
	{api.NegMulAdd, api.LayFour, "fnmadd.{f}", "ccccc ff bbbbb aaaaa mmm ddddd 1001111"},
	{api.Add, api.LayThreeM, "fadd.{f}", "00000 ff bbbbb aaaaa mmm ddddd 1010011"},
	{api.Sub, api.LayThreeM, "fsub.{f}", "00001 ff bbbbb aaaaa mmm ddddd 1010011"},
	{api.Mul, api.LayThreeM, "fmul.{f}", "00010 ff bbbbb aaaaa mmm ddddd 1010011"},
	{api.Div, api.LayThreeM, "fdiv.{f}", "00011 ff bbbbb aaaaa mmm ddddd 1010011"},
	{api.Sqrt, api.LayTwoM, "fsqrt.{f}", "01011 ff 00000 aaaaa mmm ddddd 1010011"},
	{api.SignCopy, api.LayThree, "fsgnj.{f}", "00100 ff bbbbb aaaaa 000 ddddd 1010011"},
	{api.SignNot, api.LayThree, "fsgnjn.{f}", "00100 ff bbbbb aaaaa 001 ddddd 1010011"},
	{api.SignXor, api.LayThree, "fsgnjx.{f}", "00100 ff bbbbb aaaaa 010 ddddd 1010011"},
	{api.Min, api.LayThree, "fmin.{f}", "00101 ff bbbbb aaaaa 000 ddddd 1010011"},
	{api.Max, api.LayThree, "fmax.{f}", "00101 ff bbbbb aaaaa 001 ddddd 1010011"},
	{api.Convert, api.LayTwoM, "fcvt.{f}.{g}", "01000 ff 000gg aaaaa mmm ddddd 1010011"},
	{api.Eq, api.LayThree, "feq.{f}", "10100 ff bbbbb aaaaa 010 ddddd 1010011"},
	{api.Lt, api.LayThree, "flt.{f}", "10100 ff bbbbb aaaaa 001 ddddd 1010011"},
	{api.Le, api.LayThree, "fle.{f}", "10100 ff bbbbb aaaaa 000 ddddd 1010011"},
	{api.ToInt, api.LayTwoM, "fcvt.{k}.{f}", "11000 ff 000kk aaaaa mmm ddddd 1010011"},
	{api.FromInt, api.LayTwoM, "fcvt.{f}.{k}", "11010 ff 000kk aaaaa mmm ddddd 1010011"},
	{api.ToWord, api.LayTwo, "fmv.x.{v}", "11100 ff 00000 aaaaa 000 ddddd 1010011"},
	{api.Classify, api.LayTwo, "fclass.{f}", "11100 ff 00000 aaaaa 001 ddddd 1010011"},
	{api.OfWord, api.LayTwo, "fmv.{v}.x", "11110 ff 00000 aaaaa 000 ddddd 1010011"},
	{api.CsrSwap, api.LayCsr, "csrrw", "nnnnnnnnnnnn aaaaa 001 ddddd 1110011"},
	{api.CsrSet, api.LayCsr, "csrrs", "nnnnnnnnnnnn aaaaa 010 ddddd 1110011"},
	{api.CsrClear, api.LayCsr, "csrrc", "nnnnnnnnnnnn aaaaa 011 ddddd 1110011"},
	{api.CsrSwapI, api.LayCsrI, "csrrwi", "nnnnnnnnnnnn uuuuu 101 ddddd 1110011"},
	{api.CsrSetI, api.LayCsrI, "csrrsi", "nnnnnnnnnnnn uuuuu 110 ddddd 1110011"},
	{api.CsrClearI, api.LayCsrI, "csrrci", "nnnnnnnnnnnn uuuuu 111 ddddd 1110011"},
}

// choice is one of what a name may have in a place: how it is named, and how it stands in a word.
type choice struct{ name, bits string }

// choices stand by number. A format that is moved to words is none of 128 bits.
var choices = map[string][]choice{
	"f": {{"s", "00"}, {"d", "01"}, {"h", "10"}, {"q", "11"}},
	"g": {{"s", "00"}, {"d", "01"}, {"h", "10"}, {"q", "11"}},
	"k": {{"w", "00"}, {"wu", "01"}, {"l", "10"}, {"lu", "11"}},
	"v": {{"w", "00"}, {"d", "01"}, {"h", "10"}},
	"w": {{"w", "010"}, {"d", "011"}, {"h", "001"}, {"q", "100"}},
}

// model has all rows, in the document's order.
var model = modelRows()

func modelRows() []entry {
	var out []entry
	for _, b := range book {
		first := entry{api.Row{Op: b.op, Layout: b.layout}, b.name, strings.ReplaceAll(b.bits, " ", "")}
		l := []entry{first}
		for _, what := range []string{"f", "v", "w", "g", "k"} { // by Form, then by From, by Kind
			l = spread(l, what)
		}
		for _, x := range l {
			if x.row.Op != api.Convert || x.row.Form != x.row.From {
				out = append(out, x.done())
			}
		}
	}
	return out
}

// spread makes of each one that has a place for what as many as there are choices.
func spread(l []entry, what string) []entry {
	var out []entry
	for _, x := range l {
		if !strings.Contains(x.name, "{"+what+"}") {
			out = append(out, x)
			continue
		}
		for n, c := range choices[what] {
			y := x
			y.name = strings.ReplaceAll(x.name, "{"+what+"}", c.name)
			place := what
			switch what {
			case "g":
				y.row.From = api.Form(n)
			case "k":
				y.row.Kind = api.IntKind(n)
			case "v":
				place = "f"
				y.row.Form = api.Form(n)
			default:
				y.row.Form = api.Form(n)
			}
			y.bits = strings.ReplaceAll(x.bits, strings.Repeat(place, len(c.bits)), c.bits)
			out = append(out, y)
		}
	}
	return out
}

// done has the row's Mask and Match, as its bits say.
func (x entry) done() entry {
	if len(x.bits) != 32 {
		panic(x.name)
	}
	for i, c := range x.bits {
		at := uint32(1) << (31 - i)
		switch c {
		case '1':
			x.row.Match |= at
			x.row.Mask |= at
		case '0':
			x.row.Mask |= at
		}
	}
	return x
}

// field is the number that stands for a letter in w.
func (x entry) field(letter byte, w uint32) (n uint32, has bool) {
	for i := range 32 {
		if x.bits[i] == letter {
			has = true
			n = n<<1 | w>>(31-i)&1
		}
	}
	return n, has
}

// takes tells whether w is of the row.
func (x entry) takes(w uint32) bool {
	if w&x.row.Mask != x.row.Match {
		return false
	}
	if m, has := x.field('m', w); has && (m == 5 || m == 6) {
		return false
	}
	n, has := x.field('n', w)
	return !has || n == 1 || n == 2 || n == 3
}

// modelFind is what Find answers.
func modelFind(w uint32) found {
	for _, x := range model {
		if x.takes(w) {
			return found{x.row, true}
		}
	}
	return found{}
}

func (f found) String() string { return fmt.Sprintf("%+v, %v", f.row, f.is) }

// source is xorshift: the same numbers each time.
type source uint64

func (s *source) next() uint64 {
	x := uint64(*s)
	x ^= x << 13
	x ^= x >> 7
	x ^= x << 17
	*s = source(x)
	return x
}

// word is 32 bits of which some have more ones than others.
func (s *source) word() uint32 {
	x := s.next()
	w := uint32(x >> 7)
	switch x % 4 {
	case 0:
		return w & uint32(s.next()>>9)
	case 1:
		return w | uint32(s.next()>>9)
	default:
		return w
	}
}

// pick is one of l.
func pick[T any](s *source, l []T) T { return l[s.next()%uint64(len(l))] }
