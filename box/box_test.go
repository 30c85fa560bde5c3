package box

import (
	"slices"
	"testing"

	"abacus/api"
	"abacus/kind"
	"abacus/shape"
)

// The chapter's examples, and ones like them for each format.
func TestExamples(t *testing.T) {
	const ones = "ffffffffffffffff"
	half := bits(ones + "ffffffffffff3c00")
	for name, c := range map[string]struct {
		got  read
		want string
	}{
		"Above(Single)":         {toRead(Above(api.Single)), ones + "ffffffff00000000"},
		"Above(Half)":           {toRead(Above(api.Half)), ones + "ffffffffffff0000"},
		"Above(Double)":         {toRead(Above(api.Double)), ones + "0000000000000000"},
		"Above(Quad)":           {toRead(Above(api.Quad)), "0"},
		"Box(Half, 3c00)":       {toRead(Box(api.Half, bits("3c00"))), ones + "ffffffffffff3c00"},
		"Box(Single, 3f800000)": {toRead(Box(api.Single, bits("3f800000"))), ones + "ffffffff3f800000"},
		"Box(Double, 1)":        {toRead(Box(api.Double, bits("3ff0000000000000"))), ones + "3ff0000000000000"},
		"Box(Quad, 1)":          {toRead(Box(api.Quad, bits("3fff0000000000000000000000000000"))), "3fff0000000000000000000000000000"},
		"Unbox(Half, of it)":    {toRead(Unbox(api.Half, half)), "3c00"},
		"Unbox(Single, of it)":  {toRead(Unbox(api.Single, half)), "ffff3c00"},
		"Unbox(Double, of it)":  {toRead(Unbox(api.Double, half)), "ffffffffffff3c00"},
		"Unbox(Quad, of it)":    {toRead(Unbox(api.Quad, half)), ones + "ffffffffffff3c00"},
		"Unbox(Half, 3c00)":     {toRead(Unbox(api.Half, bits("3c00"))), "7e00"},
		"Unbox(Single, 3c00)":   {toRead(Unbox(api.Single, bits("3c00"))), "7fc00000"},
		"Unbox(Double, 3c00)":   {toRead(Unbox(api.Double, bits("3c00"))), "7ff8000000000000"},
		"Unbox(Quad, 3c00)":     {toRead(Unbox(api.Quad, bits("3c00"))), "3c00"},
		"Low(Half, 123456)":     {toRead(Low(api.Half, bits("123456"))), "3456"},
		"Low(Single, wide)":     {toRead(Low(api.Single, bits("123456789abcdef0"))), "9abcdef0"},
		"Low(Double, wide)":     {toRead(Low(api.Double, bits("1123456789abcdef0"))), "123456789abcdef0"},
		"Low(Quad, wide)":       {toRead(Low(api.Quad, bits("1123456789abcdef0"))), "1123456789abcdef0"},
		"Unbox(Double, 1)":      {toRead(Unbox(api.Double, bits(ones+"3ff0000000000000"))), "3ff0000000000000"},
		"Within(Double, Half)":  {toRead(Within(api.Double, half, api.Half)), "3c00"},
		"Within(Double, 3c00)":  {toRead(Within(api.Double, bits("3c00"), api.Half)), "7e00"},
		"Within(Half, Double)":  {toRead(Within(api.Half, half, api.Double)), "ffffffffffff3c00"},
		"Within(Half, 3c00)":    {toRead(Within(api.Half, bits("3c00"), api.Double)), "ffffffffffff7e00"},
		"Within(Quad, Half)":    {toRead(Within(api.Quad, half, api.Half)), "3c00"},
	} {
		if c.got != (read{b: bits(c.want)}) {
			t.Errorf("%s: %v; wanted %s", name, c.got, c.want)
		}
	}
	for name, got := range map[string]read{
		"Box(Half, 10000)": toRead(Box(api.Half, bits("10000"))),
		"Box(4, 0)":        toRead(Box(4, api.Bits{})),
		"Above(9)":         toRead(Above(9)),
	} {
		if got != wrong {
			t.Errorf("%s: %v", name, got)
		}
	}
}

// P22.1: ones from the width on, zeros below, bit by bit.
func TestAbove(t *testing.T) {
	for _, f := range formats {
		b, e := Above(f.f)
		if e != api.OK {
			t.Errorf("Above(%s): %v", f.name, e)
		}
		for n := range 128 {
			one := place(n)
			has := b.Hi&one.Hi != 0 || b.Lo&one.Lo != 0
			if has != (n >= shape.Width(f.f)) {
				t.Errorf("Above(%s): the bit %d is %v", f.name, n, has)
			}
		}
	}
}

// P22.1: what is boxed has ones in all bits above: one zero among them is enough, and no bit below counts.
func TestIsBoxed(t *testing.T) {
	for _, f := range formats {
		for _, r := range registers() {
			if got := IsBoxed(f.f, r); got != isFilled(text(r), f.digits) {
				t.Errorf("IsBoxed(%s, %s): %v", f.name, text(r), got)
			}
		}
	}
}

// P22.2: Box is OK of all encodings of a format, with ones above them; of none else.
func TestBox(t *testing.T) {
	for _, f := range formats {
		for _, r := range registers() {
			want := wrong
			if s := tail(text(r), f.digits); bits(s) == r {
				want = read{b: bits(filled(s))}
			}
			if got := toRead(Box(f.f, r)); got != want {
				t.Errorf("Box(%s, %s): %v; wanted %v", f.name, text(r), got, want)
			}
			low := bits(tail(text(r), f.digits))
			if got := toRead(Box(f.f, low)); got != (read{b: bits(filled(tail(text(r), f.digits)))}) {
				t.Errorf("Box(%s, %s): %v", f.name, text(low), got)
			}
		}
	}
}

// P22.2: the low bits of what is boxed, else the canonical NaN.
func TestUnbox(t *testing.T) {
	for _, f := range formats {
		for _, r := range registers() {
			want := read{b: bits(unboxed(text(r), f.digits, f.nan))}
			if got := toRead(Unbox(f.f, r)); got != want {
				t.Errorf("Unbox(%s, %s): %v; wanted %v", f.name, text(r), got, want)
			}
		}
	}
}

// P22.2: the low bits, boxed or not.
func TestLow(t *testing.T) {
	for _, f := range formats {
		for _, r := range registers() {
			want := read{b: bits(tail(text(r), f.digits))}
			if got := toRead(Low(f.f, r)); got != want {
				t.Errorf("Low(%s, %s): %v; wanted %v", f.name, text(r), got, want)
			}
		}
	}
}

// P22.3: the formats as which a register is boxed, rising by width, Quad always and last.
func TestForms(t *testing.T) {
	for s, want := range map[string][]api.Form{
		"0":                                {api.Quad},
		"3c00":                             {api.Quad},
		"ffffffffffff3c00":                 {api.Quad},
		filled(""):                         {api.Half, api.Single, api.Double, api.Quad},
		filled("3c00"):                     {api.Half, api.Single, api.Double, api.Quad},
		filled("3f800000"):                 {api.Single, api.Double, api.Quad},
		filled("3ff0000000000000"):         {api.Double, api.Quad},
		filled("fffeffff"):                 {api.Single, api.Double, api.Quad},
		"fffffffffffffffeffffffffffff3c00": {api.Quad},
	} {
		if got := slices.Collect(Forms(bits(s))); !slices.Equal(got, want) {
			t.Errorf("Forms(%s): %v; wanted %v", s, got, want)
		}
	}
	for _, r := range registers() {
		var want []api.Form
		for _, f := range formats {
			if isFilled(text(r), f.digits) {
				want = append(want, f.f)
			}
		}
		if got := slices.Collect(Forms(r)); !slices.Equal(got, want) {
			t.Errorf("Forms(%s): %v; wanted %v", text(r), got, want)
		}
	}
}

// P22.3 and P0.1: Forms may be left after each of its formats, and gone over again.
func TestFormsLeft(t *testing.T) {
	all := Forms(bits(filled("3c00")))
	for n := 1; n <= 4; n++ {
		var got []api.Form
		for f := range all {
			if got = append(got, f); len(got) == n {
				break
			}
		}
		if want := slices.Collect(all)[:n]; !slices.Equal(got, want) {
			t.Errorf("left after %d: %v; wanted %v", n, got, want)
		}
	}
}

// P22.3: what is read in one format of a register that was written with what another one reads.
func TestWithin(t *testing.T) {
	for _, f := range formats {
		for _, as := range formats {
			for _, r := range registers() {
				written := filled(unboxed(text(r), f.digits, f.nan))
				want := read{b: bits(unboxed(written, as.digits, as.nan))}
				if got := toRead(Within(f.f, r, as.f)); got != want {
					t.Errorf("Within(%s, %s, %s): %v; wanted %v", f.name, text(r), as.name, got, want)
				}
			}
		}
	}
}

// P22.1 to P22.3: no format is answered by ErrArg and zeros, or by false.
func TestNoFormat(t *testing.T) {
	for _, f := range none() {
		for _, r := range []api.Bits{{}, bits("3c00"), bits(filled("3c00")), bits(filled(""))} {
			calls := map[string]read{
				"Above":             toRead(Above(f)),
				"Box":               toRead(Box(f, r)),
				"Unbox":             toRead(Unbox(f, r)),
				"Low":               toRead(Low(f, r)),
				"Within, both":      toRead(Within(f, r, f)),
				"Within, the first": toRead(Within(f, r, api.Half)),
				"Within, as":        toRead(Within(api.Half, r, f)),
				"Within, as (Quad)": toRead(Within(api.Quad, r, f)),
			}
			for name, got := range calls {
				if got != wrong {
					t.Errorf("%s of %d and %s: %v", name, f, text(r), got)
				}
			}
			if IsBoxed(f, r) {
				t.Errorf("IsBoxed(%d, %s)", f, text(r))
			}
		}
	}
}

// P22.4: there and back.
func TestThereAndBack(t *testing.T) {
	for _, f := range formats {
		for _, r := range registers() {
			b := bits(tail(text(r), f.digits))
			boxed, _ := Box(f.f, b)
			if !IsBoxed(f.f, boxed) || toRead(Unbox(f.f, boxed)) != (read{b: b}) || toRead(Low(f.f, boxed)) != (read{b: b}) {
				t.Errorf("%s: %s boxed is %s", f.name, text(b), text(boxed))
			}
			want := r
			if !IsBoxed(f.f, r) {
				want, _ = Box(f.f, shape.NaN(f.f))
			}
			u, _ := Unbox(f.f, r)
			if got := toRead(Box(f.f, u)); got != (read{b: want}) {
				t.Errorf("%s: %s unboxed and boxed is %v", f.name, text(r), got)
			}
		}
	}
}

// P22.4: what is boxed is so as each wider format, a quiet NaN with a sign there.
func TestWider(t *testing.T) {
	for i, narrow := range formats {
		for _, wider := range formats[i+1:] {
			for _, r := range registers() {
				boxed, _ := Box(narrow.f, bits(tail(text(r), narrow.digits)))
				if !IsBoxed(wider.f, boxed) {
					t.Errorf("%s boxed as %s is not as %s", text(boxed), narrow.name, wider.name)
				}
				b, _ := Unbox(wider.f, boxed)
				class, e := kind.Class(wider.f, b)
				if class != api.Quiet || e != api.OK || tail(text(b), wider.digits)[0] != 'f' {
					t.Errorf("%s as %s: class %d, %v", text(boxed), wider.name, class, e)
				}
			}
		}
	}
}

// P22.5: Within of a format and itself is Unbox; of a wider one, of what is boxed as the narrower one, Unbox as the narrower one.
func TestWithinFollows(t *testing.T) {
	for i, narrow := range formats {
		for _, r := range registers() {
			if got, want := toRead(Within(narrow.f, r, narrow.f)), toRead(Unbox(narrow.f, r)); got != want {
				t.Errorf("Within(%s, %s, the same): %v; wanted %v", narrow.name, text(r), got, want)
			}
			if !IsBoxed(narrow.f, r) {
				continue
			}
			for _, wider := range formats[i+1:] {
				if got, want := toRead(Within(wider.f, r, narrow.f)), toRead(Unbox(narrow.f, r)); got != want {
					t.Errorf("Within(%s, %s, %s): %v; wanted %v", wider.name, text(r), narrow.name, got, want)
				}
			}
		}
	}
}

// P0.1: the same calls answer the same, whatever was called between.
func TestAgain(t *testing.T) {
	var first []read
	for turn := range 2 {
		var got []read
		for _, r := range registers() {
			for n := range 6 {
				f := api.Form(n)
				got = append(got, toRead(Above(f)), toRead(Box(f, r)), toRead(Unbox(f, r)), toRead(Low(f, r)), toRead(Within(f, r, api.Half)))
			}
		}
		if turn == 0 {
			first = got
		} else if !slices.Equal(first, got) {
			t.Error("the same calls answer another thing")
		}
	}
}
