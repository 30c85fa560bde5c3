package kind

import (
	"strconv"
	"strings"

	"abacus/api"
	"abacus/shape"
	"abacus/wide"
)

// Text is b as text.
func Text(f api.Form, b api.Bits) (string, api.Errno) {
	p, e := Unpack(f, b)
	if e != api.OK {
		return "", e
	}
	if signOf(f, b) {
		return "-" + magnitudeText(p), api.OK
	}
	return magnitudeText(p), api.OK
}

func magnitudeText(p api.Parts) string {
	switch p.Class {
	case api.Quiet:
		return "nan:" + wide.Text(p.Fraction)
	case api.Signaling:
		return "snan:" + wide.Text(p.Fraction)
	case api.NegInf, api.PosInf:
		return "inf"
	case api.NegZero, api.PosZero:
		return "0"
	}
	return wide.Text(p.Sig) + "p" + strconv.Itoa(p.Exp)
}

// Read is the encoding whose text s is. What s seems to be is read without care: it counts only if its text is s again, for there is one form.
func Read(f api.Form, s string) (api.Bits, api.Errno) {
	if e := shape.Check(f); e != api.OK {
		return api.Bits{}, e
	}
	magnitude, neg := strings.CutPrefix(s, "-")
	b := signed(f, readMagnitude(f, magnitude), neg)
	if again, e := Text(f, b); e != api.OK || again != s {
		return api.Bits{}, api.ErrNumber
	}
	return b, api.OK
}

// readMagnitude is what a text without its sign seems to be.
func readMagnitude(f api.Form, s string) api.Bits {
	if s == "0" {
		return api.Bits{}
	}
	if s == "inf" {
		return shape.Inf(f, false)
	}
	if _, digits, is := strings.Cut(s, "nan:"); is {
		fraction, _ := wide.Read(digits)
		return endlessBits(f, fraction)
	}
	digits, count, _ := strings.Cut(s, "p")
	sig, _ := wide.Read(digits)
	exp, _ := strconv.Atoi(count)
	return finiteBits(f, sig, exp)
}
