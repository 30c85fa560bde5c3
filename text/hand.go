package text

import (
	"strconv"
	"strings"

	"abacus/api"
	"abacus/csr"
	"abacus/regs"
)

// teller is a hand that tells the operands of an instruction that may be, and what it has told.
func teller() (h hand, told func() string) {
	var s string
	h = hand{
		sign: func(t string) { s += t },
		register: func(float bool, n uint8) uint8 {
			name, _ := regs.Name(float, int(n))
			s += name
			return n
		},
		mode: func(rm uint8) uint8 {
			word, _ := Mode(rm)
			s += word
			return rm
		},
		csr: func(n uint8) uint8 {
			name, _ := csr.Name(int(n))
			s += name
			return n
		},
		number: func(n, _, _ int) int {
			s += strconv.Itoa(n)
			return n
		},
	}
	return h, func() string { return s }
}

// taker is a hand that takes the operands that s tells, and whether all went well, and nothing is left.
func taker(s string) (h hand, isWell func() bool) {
	well := true
	keep := func(is bool) { well = well && is }
	next := func() string {
		end := strings.IndexAny(s, comma+open+shut)
		if end < 0 {
			end = len(s)
		}
		word := s[:end]
		s = s[end:]
		return word
	}
	h = hand{
		sign: func(t string) {
			rest, is := strings.CutPrefix(s, t)
			keep(is)
			s = rest
		},
		register: func(float bool, _ uint8) uint8 {
			isFloat, n, e := regs.Named(next())
			keep(e == api.OK && isFloat == float)
			return uint8(n)
		},
		mode: func(uint8) uint8 {
			rm, e := ReadMode(next())
			keep(e == api.OK)
			return rm
		},
		csr: func(uint8) uint8 {
			n, e := csr.Named(next())
			keep(e == api.OK)
			return uint8(n)
		},
		number: func(_, least, most int) int {
			word := next()
			n, _ := strconv.Atoi(word)
			// Whatever else the word was taken for, a number has one text only.
			keep(strconv.Itoa(n) == word && n >= least && n <= most)
			return n
		},
	}
	return h, func() bool { return well && s == "" }
}
