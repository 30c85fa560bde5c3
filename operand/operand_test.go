package operand

import (
	"slices"
	"testing"

	"abacus/api"
)

// outstanding are a format's width and encodings as the document's words give them, in hexadecimal.
var outstanding = []struct {
	form          api.Form
	width         int
	inf, neg, nan api.Bits
}{
	{api.Half, 16, api.Bits{Lo: 0x7c00}, api.Bits{Lo: 0xfc00}, api.Bits{Lo: 0x7e00}},
	{api.Single, 32, api.Bits{Lo: 0x7f800000}, api.Bits{Lo: 0xff800000}, api.Bits{Lo: 0x7fc00000}},
	{api.Double, 64, api.Bits{Lo: 0x7ff0000000000000}, api.Bits{Lo: 0xfff0000000000000}, api.Bits{Lo: 0x7ff8000000000000}},
	{api.Quad, 128, api.Bits{Hi: 0x7fff000000000000}, api.Bits{Hi: 0xffff000000000000}, api.Bits{Hi: 0x7fff800000000000}},
}

func TestOutstanding(t *testing.T) {
	for _, c := range outstanding {
		if got := Inf(c.form, false); got != c.inf {
			t.Errorf("Inf(%d, false): %x", c.form, got)
		}
		if got := Inf(c.form, true); got != c.neg {
			t.Errorf("Inf(%d, true): %x", c.form, got)
		}
		if got := NaN(c.form); got != c.nan {
			t.Errorf("NaN(%d): %x", c.form, got)
		}
	}
}

func TestClasses(t *testing.T) {
	for c := range 256 {
		class := api.Class(c)
		if got, want := Endless(class), class == api.NegInf || class == api.PosInf; got != want {
			t.Errorf("Endless(%d): %v", c, got)
		}
		if got, want := Naught(class), class == api.NegZero || class == api.PosZero; got != want {
			t.Errorf("Naught(%d): %v", c, got)
		}
	}
}

func TestPlain(t *testing.T) {
	for c, want := range map[api.Class]api.Class{
		api.NegInf: api.PosInf, api.PosInf: api.PosInf, api.NegZero: api.PosZero, api.PosZero: api.PosZero, api.Signaling: api.Signaling, api.Quiet: api.Quiet,
		api.NegNormal: api.PosNormal, api.NegSub: api.PosNormal, api.PosSub: api.PosNormal, api.PosNormal: api.PosNormal,
	} {
		if got := Plain(c); got != want {
			t.Errorf("Plain(%d): %d; wanted %d", c, got, want)
		}
	}
}

// All formats and modes, with and without a list.
func TestMayBe(t *testing.T) {
	for f := range 256 {
		for m := range 256 {
			form, mode, want := api.Form(f), api.Mode(m), f < 4 && m < 5
			if got := MayBe(form, mode); got != want {
				t.Errorf("MayBe(%d, %d): %v", f, m, got)
			}
			if got := MayBe(form, mode, api.Bits{Lo: 0x7c01}, api.Bits{}); got != want {
				t.Errorf("MayBe(%d, %d, 7c01, 0): %v", f, m, got)
			}
		}
	}
}

// One that is no encoding, at each place of a list, by each of its bits above the width.
func TestMayBeNoEncoding(t *testing.T) {
	for _, c := range outstanding {
		good := []api.Bits{c.inf, c.nan, c.neg, {}, {Lo: 1}}
		if !MayBe(c.form, api.Up, good...) {
			t.Errorf("MayBe(%d, Up, %x) is false", c.form, good)
		}
		for place := c.width; place < 128; place++ {
			for i := range good {
				list := slices.Clone(good)
				if place < 64 {
					list[i].Lo |= 1 << place
				} else {
					list[i].Hi |= 1 << (place - 64)
				}
				if MayBe(c.form, api.Up, list...) {
					t.Errorf("MayBe(%d, Up, %x) is true", c.form, list)
				}
			}
		}
	}
}
