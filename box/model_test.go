package box

import (
	"fmt"
	"strconv"
	"strings"

	"abacus/api"
)

// read is what the calls answer, so that it is held against what is wanted as a whole.
type read struct {
	b api.Bits
	e api.Errno
}

func toRead(b api.Bits, e api.Errno) read { return read{b, e} }

func (r read) String() string { return text(r.b) + ", " + r.e.Error() }

// wrong is the answer to what may not be.
var wrong = read{e: api.ErrArg}

// formats are the document's, rising by width, with the digits by which an encoding is written and the canonical NaN in these.
var formats = []struct {
	f      api.Form
	name   string
	digits int
	nan    string
}{
	{api.Half, "h", 4, "7e00"},
	{api.Single, "s", 8, "7fc00000"},
	{api.Double, "d", 16, "7ff8000000000000"},
	{api.Quad, "q", 32, "7fff8000000000000000000000000000"},
}

// none are all numbers of api.Form that are no format.
func none() []api.Form {
	var out []api.Form
	for n := 4; n < 256; n++ {
		out = append(out, api.Form(n))
	}
	return out
}

// A register is a text of 32 digits in the model, of which the formats take whole ones.
func text(b api.Bits) string { return fmt.Sprintf("%016x%016x", b.Hi, b.Lo) }

func parsed(s string) uint64 {
	x, err := strconv.ParseUint(s, 16, 64)
	if err != nil {
		panic(err)
	}
	return x
}

// bits are those of a text of at most 32 digits.
func bits(s string) api.Bits {
	s = strings.Repeat("0", 32-len(s)) + s
	return api.Bits{Hi: parsed(s[:16]), Lo: parsed(s[16:])}
}

// filled is a text with ones ahead.
func filled(s string) string { return strings.Repeat("f", 32-len(s)) + s }

// tail is the text of the lowest bits.
func tail(s string, digits int) string { return s[32-digits:] }

// isFilled tells whether there are ones in all digits ahead of the lowest ones.
func isFilled(s string, digits int) bool { return filled(tail(s, digits)) == s }

// unboxed is what a text is read as.
func unboxed(s string, digits int, nan string) string {
	if isFilled(s, digits) {
		return tail(s, digits)
	}
	return nan
}

// source is xorshift: the same numbers each time.
type source uint64

func (s *source) next() uint64 {
	*s ^= *s << 13
	*s ^= *s >> 7
	*s ^= *s << 17
	return uint64(*s)
}

// registers are those at which something changes: none and all bits, one bit alone, one missing, ones from each place on and up to it; each format's outstanding values with ones above, with zeros above, and with one bit above that is another; and some of all kinds.
func registers() []api.Bits {
	const ones = 1<<64 - 1
	list := []api.Bits{{}, {Hi: ones, Lo: ones}, {Hi: ones}, {Lo: ones}}
	for n := range 128 {
		one := place(n)
		below := api.Bits{Hi: one.Hi - 1, Lo: ones}
		if n < 64 {
			below = api.Bits{Lo: one.Lo - 1}
		}
		list = append(list, one, below, turned(one), turned(below))
	}
	for _, s := range []string{"3c00", "0000", "ffff", "7e00", "fc01", "3f800000", "ffff3c00", "7fffffff", "3ff0000000000000", "ffffffff3f800000", "ffffffffffff3c00", "fffffffeffff3c00", "7fffffffffff3c00"} {
		list = append(list, bits(s), bits(filled(s)))
		for n := 4 * len(s); n < 128; n++ {
			b, one := bits(filled(s)), place(n)
			list = append(list, api.Bits{Hi: b.Hi ^ one.Hi, Lo: b.Lo ^ one.Lo})
		}
	}
	s := source(22)
	for range 500 {
		x, y := s.next(), s.next()
		list = append(list, api.Bits{Hi: x, Lo: y}, api.Bits{Hi: ones, Lo: y}, api.Bits{Hi: ones, Lo: y | ones<<32&ones}, api.Bits{Hi: ones, Lo: y | ones<<16&ones}, api.Bits{Lo: y})
	}
	return list
}

// place is the one bit n.
func place(n int) api.Bits {
	if n < 64 {
		return api.Bits{Lo: 1 << n}
	}
	return api.Bits{Hi: 1 << (n - 64)}
}

func turned(b api.Bits) api.Bits { return api.Bits{Hi: ^b.Hi, Lo: ^b.Lo} }
