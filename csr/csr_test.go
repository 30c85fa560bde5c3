package csr

import (
	"math"
	"testing"

	"abacus/api"
)

// The chapter's examples.
func TestExamples(t *testing.T) {
	for name, c := range map[string]struct{ got, want any }{
		"Read(1, e3)":                 {toNumber(Read(1, 0xe3)), number{x: 3}},
		"Read(2, e3)":                 {toNumber(Read(2, 0xe3)), number{x: 7}},
		"Read(3, e3)":                 {toNumber(Read(3, 0xe3)), number{x: 0xe3}},
		"Read(0, e3)":                 {toNumber(Read(0, 0xe3)), number{e: api.ErrCsr}},
		"Write(1, e3, 1f4)":           {toByte(Write(1, 0xe3, 0x1f4)), byteful{b: 0xf4}},
		"Write(2, e3, 9)":             {toByte(Write(2, 0xe3, 9)), byteful{b: 0x23}},
		"Write(3, e3, 123)":           {toByte(Write(3, 0xe3, 0x123)), byteful{b: 0x23}},
		"Act(Set, 1, 01, 10, false)":  {toActed(Act(api.Set, 1, 1, 0x10, false)), acted{old: 1, now: 0x11, wrote: true}},
		"Act(Set, 1, 01, 10, true)":   {toActed(Act(api.Set, 1, 1, 0x10, true)), acted{old: 1, now: 1}},
		"Act(Clear, 3, ff, 0f,false)": {toActed(Act(api.Clear, 3, 0xff, 0x0f, false)), acted{old: 0xff, now: 0xf0, wrote: true}},
		"Act(Swap, 2, e0, 0, true)":   {toActed(Act(api.Swap, 2, 0xe0, 0, true)), acted{old: 7, wrote: true}},
		"Mode(60, 7)":                 {toMode(Mode(0x60, 7)), moded{m: api.Up}},
		"Mode(a0, 7)":                 {toMode(Mode(0xa0, 7)), moded{e: api.ErrMode}},
		"Mode(a0, 4)":                 {toMode(Mode(0xa0, 4)), moded{m: api.NearAway}},
		"Mode(00, 5)":                 {toMode(Mode(0, 5)), moded{e: api.ErrMode}},
		"Mode(00, 8)":                 {toMode(Mode(0, 8)), moded{e: api.ErrArg}},
		"Make(7, 3)":                  {toByte(Make(7, 3)), byteful{b: 0xe3}},
		"Accrue(e1, 12)":              {toByte(Accrue(0xe1, 0x12)), byteful{b: 0xf3}},
		"Accrue(0, 20)":               {toByte(Accrue(0, 0x20)), byteful{e: api.ErrArg}},
		"Text(15)":                    {toText(Text(0x15)), said{s: "nv+of+nx"}},
		"Text(0)":                     {toText(Text(0)), said{s: "-"}},
		"ReadText(of+nx)":             {toFlags(ReadText("of+nx")), flagged{f: 5}},
		"ReadText(nx+of)":             {toFlags(ReadText("nx+of")), flagged{e: api.ErrFlags}},
	} {
		if c.got != c.want {
			t.Errorf("%s: %v; wanted %v", name, c.got, c.want)
		}
	}
	if frm, f := Parts(0xe3); frm != 7 || f != 3 {
		t.Errorf("Parts(e3): %d, %d", frm, f)
	}
}

// P21.1: what each control register has, of all bytes.
func TestRead(t *testing.T) {
	for b := range 256 {
		for _, n := range numbers {
			if got := toNumber(Read(n, uint8(b))); got != (number{x: has(n, uint8(b))}) {
				t.Errorf("Read(%d, %x): %v", n, b, got)
			}
		}
	}
}

// P21.1, by hand: each bit of fcsr in its own place.
func TestBits(t *testing.T) {
	for at, c := range [8]struct{ fflags, frm uint64 }{{1, 0}, {2, 0}, {4, 0}, {8, 0}, {16, 0}, {0, 1}, {0, 2}, {0, 4}} {
		b := uint8(1) << at
		if got := toNumber(Read(1, b)); got != (number{x: c.fflags}) {
			t.Errorf("Read(1, %x): %v", b, got)
		}
		if got := toNumber(Read(2, b)); got != (number{x: c.frm}) {
			t.Errorf("Read(2, %x): %v", b, got)
		}
		if got := toNumber(Read(3, b)); got != (number{x: uint64(b)}) {
			t.Errorf("Read(3, %x): %v", b, got)
		}
	}
}

// P21.1: the lowest bits of all kinds of words, over all bytes; what is above them is passed over.
func TestWrite(t *testing.T) {
	list := some(1)
	for b := range 256 {
		for _, n := range numbers {
			for _, x := range list {
				if got := toByte(Write(n, uint8(b), x)); got != (byteful{b: written(n, uint8(b), x)}) {
					t.Fatalf("Write(%d, %x, %x): %v", n, b, x, got)
				}
			}
		}
	}
}

// P21.1, by hand: what is written over, and what stays.
func TestWriteByHand(t *testing.T) {
	for _, c := range []struct {
		n    int
		fcsr uint8
		x    uint64
		want uint8
	}{
		{1, 0x00, 0x1f, 0x1f}, {1, 0xff, 0, 0xe0}, {1, 0xff, 0x20, 0xe0}, {1, 0x40, 0xff, 0x5f}, {1, 0xb5, 0x0a, 0xaa},
		{2, 0x00, 7, 0xe0}, {2, 0xff, 0, 0x1f}, {2, 0xff, 8, 0x1f}, {2, 0x1f, 0xff, 0xff}, {2, 0xb5, 2, 0x55},
		{3, 0x00, 0xff, 0xff}, {3, 0xff, 0, 0}, {3, 0xff, 0x100, 0}, {3, 0x12, 0xffffffffffffff34, 0x34},
	} {
		if got := toByte(Write(c.n, c.fcsr, c.x)); got != (byteful{b: c.want}) {
			t.Errorf("Write(%d, %x, %x): %v; wanted %x", c.n, c.fcsr, c.x, got, c.want)
		}
	}
}

// P21.2: all hows, silent and not, over all bytes; and old does not hang on how (P21.7).
func TestAct(t *testing.T) {
	list := few(2)
	for b := range 256 {
		for _, n := range numbers {
			for _, x := range list {
				for _, how := range hows {
					for _, silent := range []bool{false, true} {
						want := after(how, n, uint8(b), x, silent)
						if got := toActed(Act(how, n, uint8(b), x, silent)); got != want {
							t.Fatalf("Act(%d, %d, %x, %x, %v): %v; wanted %v", how, n, b, x, silent, got, want)
						}
					}
				}
			}
		}
	}
}

// P21.2, by hand: what is written where nothing changes, what is above the register in x, and what stays beside it.
func TestActByHand(t *testing.T) {
	for _, c := range []struct {
		how    api.CsrHow
		n      int
		fcsr   uint8
		x      uint64
		silent bool
		want   acted
	}{
		{api.Swap, 1, 0xe3, 0x1c, false, acted{3, 0xfc, true, api.OK}},
		{api.Swap, 1, 0xe3, 0x1c, true, acted{3, 0xfc, true, api.OK}},
		{api.Swap, 3, 0xe3, 0xe3, false, acted{0xe3, 0xe3, true, api.OK}},
		{api.Set, 1, 0xe3, 0, false, acted{3, 0xe3, true, api.OK}},
		{api.Set, 1, 0xe3, 0, true, acted{3, 0xe3, false, api.OK}},
		{api.Set, 1, 0x03, 0xf4, false, acted{3, 0x17, true, api.OK}},
		{api.Set, 2, 0x23, 0x104, false, acted{1, 0xa3, true, api.OK}},
		{api.Set, 3, 0x23, 0x1c0, false, acted{0x23, 0xe3, true, api.OK}},
		{api.Set, 3, 0x23, 0xff, true, acted{0x23, 0x23, false, api.OK}},
		{api.Clear, 1, 0xff, 0xea, false, acted{0x1f, 0xf5, true, api.OK}},
		{api.Clear, 1, 0xff, 0, false, acted{0x1f, 0xff, true, api.OK}},
		{api.Clear, 2, 0xff, 0xfa, false, acted{7, 0xbf, true, api.OK}},
		{api.Clear, 2, 0xff, 7, true, acted{7, 0xff, false, api.OK}},
		{api.Clear, 3, 0xa5, math.MaxUint64, false, acted{0xa5, 0, true, api.OK}},
	} {
		if got := toActed(Act(c.how, c.n, c.fcsr, c.x, c.silent)); got != c.want {
			t.Errorf("Act(%d, %d, %x, %x, %v): %v; wanted %v", c.how, c.n, c.fcsr, c.x, c.silent, got, c.want)
		}
	}
}

// P21.3: all bytes, and all numbers of rm.
func TestMode(t *testing.T) {
	modes := map[int]api.Mode{0: api.NearEven, 1: api.ToZero, 2: api.Down, 3: api.Up, 4: api.NearAway}
	for b := range 256 {
		for rm := range 256 {
			asked := rm
			if rm == 7 {
				asked = b / 32
			}
			m, there := modes[asked]
			want := moded{m: m}
			switch {
			case rm > 7:
				want = moded{e: api.ErrArg}
			case !there:
				want = moded{e: api.ErrMode}
			}
			if got := toMode(Mode(uint8(b), uint8(rm))); got != want {
				t.Errorf("Mode(%x, %d): %v; wanted %v", b, rm, got, want)
			}
		}
	}
}

// P21.3, by hand: the edges of both, and flags that are not to be looked at.
func TestModeByHand(t *testing.T) {
	for _, c := range []struct {
		fcsr, rm uint8
		want     moded
	}{
		{0x00, 0, moded{m: api.NearEven}}, {0xff, 0, moded{m: api.NearEven}}, {0xff, 1, moded{m: api.ToZero}},
		{0xff, 4, moded{m: api.NearAway}}, {0x00, 6, moded{e: api.ErrMode}}, {0x80, 5, moded{e: api.ErrMode}},
		{0x00, 7, moded{m: api.NearEven}}, {0x1f, 7, moded{m: api.NearEven}}, {0x20, 7, moded{m: api.ToZero}},
		{0x5f, 7, moded{m: api.Down}}, {0x80, 7, moded{m: api.NearAway}}, {0x9f, 7, moded{m: api.NearAway}},
		{0xc0, 7, moded{e: api.ErrMode}}, {0xe0, 7, moded{e: api.ErrMode}}, {0xff, 7, moded{e: api.ErrMode}},
		{0xff, 8, moded{e: api.ErrArg}}, {0x00, 255, moded{e: api.ErrArg}}, {0x00, 15, moded{e: api.ErrArg}},
	} {
		if got := toMode(Mode(c.fcsr, c.rm)); got != c.want {
			t.Errorf("Mode(%x, %d): %v; wanted %v", c.fcsr, c.rm, got, c.want)
		}
	}
}

// P21.4: all bytes on both sides; what is beyond the five flags or above 7 is refused.
func TestMakeAndAccrue(t *testing.T) {
	for a := range 256 {
		for b := range 256 {
			made, grown := byteful{e: api.ErrArg}, byteful{e: api.ErrArg}
			if a < 8 && b < 32 {
				made = byteful{b: uint8(a*32 + b)}
			}
			if b < 32 {
				grown = byteful{b: uint8(bitwise(uint64(a), uint64(b), either))}
			}
			if got := toByte(Make(uint8(a), api.Flags(b))); got != made {
				t.Errorf("Make(%d, %x): %v; wanted %v", a, b, got, made)
			}
			if got := toByte(Accrue(uint8(a), api.Flags(b))); got != grown {
				t.Errorf("Accrue(%x, %x): %v; wanted %v", a, b, got, grown)
			}
		}
	}
}

// P21.4 and P21.6: the two parts of all bytes, and the byte made of them again.
func TestParts(t *testing.T) {
	for b := range 256 {
		frm, f := Parts(uint8(b))
		if int(frm) != b/32 || int(f) != b%32 {
			t.Errorf("Parts(%x): %d, %x", b, frm, f)
		}
		if got := toByte(Make(frm, f)); got != (byteful{b: uint8(b)}) {
			t.Errorf("Make of Parts(%x): %v", b, got)
		}
	}
}

// P21.4, by hand: each flag where api has it.
func TestFlagsPlaces(t *testing.T) {
	for f, want := range map[api.Flags]uint8{api.Inexact: 0xe1, api.Underflow: 0xe2, api.Overflow: 0xe4, api.DivZero: 0xe8, api.Invalid: 0xf0} {
		if got := toByte(Make(7, f)); got != (byteful{b: want}) {
			t.Errorf("Make(7, %d): %v", f, got)
		}
		if got := toByte(Accrue(0xe0, f)); got != (byteful{b: want}) {
			t.Errorf("Accrue(e0, %d): %v", f, got)
		}
	}
}

// P21.6: what was written is read, the other part is as it was, and of two writes the second one alone is left.
func TestWrittenThenRead(t *testing.T) {
	list := few(3)
	other := map[int]int{1: 2, 2: 1}
	for b := range 256 {
		for _, n := range numbers {
			for i, x := range list {
				now, e := Write(n, uint8(b), x)
				if got := toNumber(Read(n, now)); e != api.OK || got != (number{x: x % size[n]}) {
					t.Fatalf("Write(%d, %x, %x): %x, %v; read %v", n, b, x, now, e, got)
				}
				if o := other[n]; o != 0 && toNumber(Read(o, now)) != toNumber(Read(o, uint8(b))) {
					t.Fatalf("Write(%d, %x, %x): %x, and register %d is another", n, b, x, now, o)
				}
				y := list[len(list)-1-i]
				if got, want := toByte(Write(n, now, y)), toByte(Write(n, uint8(b), y)); got != want {
					t.Fatalf("Write(%d, %x, ..) of %x, then of %x: %v; wanted %v", n, b, x, y, got, want)
				}
			}
		}
	}
}

// P21.6: two sets accrued are both of them at once; no flag goes away, and frm stays.
func TestAccrueTwice(t *testing.T) {
	for b := range 256 {
		for f := range 32 {
			for g := range 32 {
				one, e1 := Accrue(uint8(b), api.Flags(f))
				two, e2 := Accrue(one, api.Flags(g))
				both := toByte(Accrue(uint8(b), api.Flags(f|g)))
				if e1 != api.OK || e2 != api.OK || both != (byteful{b: two}) {
					t.Fatalf("Accrue(%x, ..) of %x and %x: %x, %v, %v; of both %v", b, f, g, two, e1, e2, both)
				}
				if two&uint8(b) != uint8(b) || two/32 != uint8(b)/32 {
					t.Fatalf("Accrue(%x, ..) of %x and %x: %x", b, f, g, two)
				}
			}
		}
	}
}

// P21.7: swapped twice, what was there; set and then cleared, none of x's bits.
func TestActTwice(t *testing.T) {
	list := few(4)
	for b := range 256 {
		for _, n := range numbers {
			for _, x := range list {
				there := toActed(Act(api.Swap, n, uint8(b), x, false))
				back := toActed(Act(api.Swap, n, there.now, there.old, false))
				if back != (acted{x % size[n], uint8(b), true, api.OK}) {
					t.Fatalf("Act by Swap, %d, %x, %x: %v, back %v", n, b, x, there, back)
				}
				set := toActed(Act(api.Set, n, uint8(b), x, false))
				left := toActed(Act(api.Clear, n, set.now, x, false))
				if got := toNumber(Read(n, left.now)); got.x&x != 0 || got.e != api.OK {
					t.Fatalf("Act by Set and by Clear, %d, %x, %x: %v, %v; left %v", n, b, x, set, left, got)
				}
				for _, silent := range []bool{false, true} {
					cleared := toActed(Act(api.Clear, n, uint8(b), x, silent))
					if cleared.old != there.old || set.old != there.old {
						t.Fatalf("Act, %d, %x, %x: old is %v, %v, %v", n, b, x, there, set, cleared)
					}
				}
			}
		}
	}
}

// P21.1, P21.2, P21.5: numbers of no control register, whatever is beside them.
func TestNoRegister(t *testing.T) {
	for _, n := range none() {
		if got := toText(Name(n)); got != (said{e: api.ErrCsr}) {
			t.Errorf("Name(%d): %v", n, got)
		}
		for b := range 256 {
			if got := toNumber(Read(n, uint8(b))); got != (number{e: api.ErrCsr}) {
				t.Errorf("Read(%d, %x): %v", n, b, got)
			}
			for _, x := range []uint64{0, 0xff, math.MaxUint64} {
				if got := toByte(Write(n, uint8(b), x)); got != (byteful{e: api.ErrCsr}) {
					t.Errorf("Write(%d, %x, %x): %v", n, b, x, got)
				}
				for _, how := range hows {
					for _, silent := range []bool{false, true} {
						if got := toActed(Act(how, n, uint8(b), x, silent)); got != (acted{e: api.ErrCsr}) {
							t.Errorf("Act(%d, %d, %x, %x, %v): %v", how, n, b, x, silent, got)
						}
					}
				}
			}
		}
	}
}

// P21.2: what is no how, silent too; of several errors this one, whatever the register is.
func TestNoHow(t *testing.T) {
	for how := 3; how < 256; how++ {
		for _, n := range append(none(), numbers...) {
			for _, b := range []uint8{0, 0xe3, 0xff} {
				for _, silent := range []bool{false, true} {
					if got := toActed(Act(api.CsrHow(how), n, b, 0x55, silent)); got != (acted{e: api.ErrArg}) {
						t.Fatalf("Act(%d, %d, %x, 55, %v): %v", how, n, b, silent, got)
					}
				}
			}
		}
	}
}

// P0.1: a second time the same, whatever is called between.
func TestAgain(t *testing.T) {
	s := source(5)
	for range 2000 {
		how, n := api.CsrHow(s.next()%4), int(s.next()%5)
		b, x, silent := uint8(s.next()), s.next(), s.next()%2 == 0
		act, mode := toActed(Act(how, n, b, x, silent)), toMode(Mode(b, uint8(n)))
		Act(api.Swap, 3, ^b, ^x, false)
		Accrue(b, api.Flags(x%32))
		if got := toActed(Act(how, n, b, x, silent)); got != act {
			t.Errorf("Act(%d, %d, %x, %x, %v): %v, then %v", how, n, b, x, silent, act, got)
		}
		if got := toMode(Mode(b, uint8(n))); got != mode {
			t.Errorf("Mode(%x, %d): %v, then %v", b, n, mode, got)
		}
	}
}

// The model's own words, held against numbers by hand, so that it does not go astray along with the program.
func TestModel(t *testing.T) {
	if has(1, 0xb5) != 0x15 || has(2, 0xb5) != 5 || has(3, 0xb5) != 0xb5 {
		t.Error("has")
	}
	if written(1, 0xb5, 0x2a) != 0xaa || written(2, 0xb5, 0x1a) != 0x55 || written(3, 0xb5, 0x1a7) != 0xa7 {
		t.Error("written")
	}
	if bitwise(0xc, 0xa, either) != 0xe || bitwise(0xc, 0xa, firstAlone) != 4 || bitwise(math.MaxUint64, 0, either) != math.MaxUint64 {
		t.Error("bitwise")
	}
}
