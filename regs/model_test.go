package regs

import (
	"fmt"
	"math"
	"strconv"
	"strings"
	"testing"

	"abacus/api"
)

// got is what the calls that read answer, so that it is held against what is wanted as a whole.
type got struct {
	b api.Bits
	e api.Errno
}

func toGot(b api.Bits, e api.Errno) got { return got{b, e} }

func wordToGot(v uint64, e api.Errno) got { return got{api.Bits{Lo: v}, e} }

func (g got) String() string { return text(g.b) + ", " + g.e.Error() }

// formats are the document's, rising by width, with the digits by which an encoding is written and the canonical NaN in these.
var formats = []struct {
	f      api.Form
	digits int
	nan    string
}{
	{api.Half, 4, "7e00"},
	{api.Single, 8, "7fc00000"},
	{api.Double, 16, "7ff8000000000000"},
	{api.Quad, 32, "7fff8000000000000000000000000000"},
}

// noFormats are all numbers of api.Form that are no format.
func noFormats() []api.Form {
	var out []api.Form
	for n := 4; n < 256; n++ {
		out = append(out, api.Form(n))
	}
	return out
}

// noRegisters are numbers of none, those among them whose lowest bits are a register's.
func noRegisters() []int {
	out := []int{-1, -2, -31, -32, -33, 32, 33, 63, 64, 100, 255, 256, 261, 65536, 65541, 1 << 31, 1 << 32, 1<<32 + 5, -1 << 32, 5 - 1<<32, math.MaxInt, math.MaxInt - 1, math.MinInt, math.MinInt + 5}
	for n := 5; n < 63; n++ {
		out = append(out, 1<<n, 1<<n|7, -1<<n, -1<<n|7)
	}
	return out
}

// A register is a text of 32 hexadecimal digits, where formats take some of these.
func text(b api.Bits) string { return fmt.Sprintf("%016x%016x", b.Hi, b.Lo) }

func parsed(s string) uint64 {
	x, err := strconv.ParseUint(s, 16, 64)
	if err != nil {
		panic(err)
	}
	return x
}

// bits are those of a text of at most 32 digits.
func bits(s string) api.Bits {
	s = strings.Repeat("0", 32-len(s)) + s
	return api.Bits{Hi: parsed(s[:16]), Lo: parsed(s[16:])}
}

// filled is a text with ones ahead.
func filled(s string) string { return strings.Repeat("f", 32-len(s)) + s }

// unboxed is what a text is read as.
func unboxed(s string, digits int, nan string) string {
	if low := s[32-digits:]; filled(low) == s {
		return low
	}
	return nan
}

// The model is plain data of which the first x register is 0.
type model struct{ api.Regs }

func modelOf(x api.Regs) model {
	x.X[0] = 0
	return model{x}
}

func (m *model) setX(n int, v uint64) {
	if n > 0 {
		m.X[n] = v
	}
}

// changes are what Changed answers of two models.
func changes(a, b model) []api.Change {
	var out []api.Change
	for n := range 32 {
		if a.X[n] != b.X[n] {
			out = append(out, api.Change{N: n, Word: b.X[n]})
		}
	}
	for n := range 32 {
		if a.F[n] != b.F[n] {
			out = append(out, api.Change{Float: true, N: n, Bits: b.F[n]})
		}
	}
	return out
}

// told is the model of what r's calls tell, each of which must tell the same.
func told(t *testing.T, r *Regs) model {
	t.Helper()
	var m model
	for n := range 32 {
		var e, e2 api.Errno
		m.X[n], e = r.X(n)
		m.F[n], e2 = r.F(n)
		if e != api.OK || e2 != api.OK {
			t.Errorf("X(%d), F(%d): %v, %v", n, n, e, e2)
		}
	}
	if whole := r.Tell(); whole != m.Regs {
		t.Errorf("Tell: %v; X and F: %v", whole, m)
	}
	return m
}

// holds fails, if r has not what m says.
func holds(t *testing.T, name string, r *Regs, m model) {
	t.Helper()
	has := told(t, r)
	for n := range 32 {
		if has.X[n] != m.X[n] || has.F[n] != m.F[n] {
			t.Errorf("%s: x%d has %x, f%d %s; wanted %x, %s", name, n, has.X[n], n, text(has.F[n]), m.X[n], text(m.F[n]))
		}
	}
}

// full has another thing in each register, in x0 too, and in both words of the f registers.
func full() api.Regs {
	var x api.Regs
	s := source(23)
	for n := range 32 {
		x.X[n] = s.next()
		x.F[n] = api.Bits{Hi: s.next(), Lo: s.next()}
	}
	return x
}

// source is xorshift: the same numbers each time.
type source uint64

func (s *source) next() uint64 {
	*s ^= *s << 13
	*s ^= *s >> 7
	*s ^= *s << 17
	return uint64(*s)
}

// below is a number below n.
func (s *source) below(n int) int { return int(s.next() % uint64(n)) }

// place is the one bit n.
func place(n int) api.Bits {
	if n < 64 {
		return api.Bits{Lo: 1 << n}
	}
	return api.Bits{Hi: 1 << (n - 64)}
}

func joined(a, b api.Bits) api.Bits { return api.Bits{Hi: a.Hi | b.Hi, Lo: a.Lo | b.Lo} }

// patterns are what an f register may have: each format's outstanding values with ones above, with zeros above, and with one bit above that is another; one bit alone, and one missing.
func patterns() []api.Bits {
	out := []api.Bits{{}, bits(filled(""))}
	for n := range 128 {
		one := place(n)
		out = append(out, one, api.Bits{Hi: ^one.Hi, Lo: ^one.Lo})
	}
	for _, s := range []string{"3c00", "0000", "7e00", "fc01", "3f800000", "ffff3c00", "7fc00001", "3ff0000000000000", "ffffffffffff3c00", "7ff0000000000001"} {
		out = append(out, bits(s), bits(filled(s)))
		for n := 4 * len(s); n < 128; n++ {
			b, one := bits(filled(s)), place(n)
			out = append(out, api.Bits{Hi: b.Hi ^ one.Hi, Lo: b.Lo ^ one.Lo})
		}
	}
	return out
}
