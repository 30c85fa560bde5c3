package csr

import (
	"math"
	"strings"
	"testing"

	"abacus/api"
)

// P21.5: the three names, and the numbers of them.
func TestNames(t *testing.T) {
	for _, n := range numbers {
		if got := toText(Name(n)); got != (said{s: name[n]}) {
			t.Errorf("Name(%d): %v", n, got)
		}
		if got := toCount(Named(name[n])); got != (counted{n: n}) {
			t.Errorf("Named(%q): %v", name[n], got)
		}
	}
}

// P21.5: what is no name: parts of one, more than one, others that machines have.
func TestNoName(t *testing.T) {
	list := []string{"", " ", "-", "f", "FRM", "Frm", "frm ", " frm", "frm\n", "frm\x00", "frmfcsr", "fflag", "fflagss", "flags", "csr", "fcs", "fscr", "1", "2", "3", "fsflags", "mstatus", "ｆｒｍ", "\xff", strings.Repeat("fcsr", 1<<18)}
	for _, s := range name {
		for i := range s {
			list = append(list, s[:i], s[i+1:], s[:i]+s[i+1:], s[:i]+string(s[i]-32)+s[i+1:], s[:i]+" "+s[i:])
		}
	}
	for _, s := range list {
		if got := toCount(Named(s)); got != (counted{e: api.ErrCsr}) {
			t.Errorf("Named(%.20q): %v", s, got)
		}
	}
}

// P21.5: the text of each set, and that set out of it again.
func TestTexts(t *testing.T) {
	for i, text := range texts {
		f := api.Flags(i)
		if got := toText(Text(f)); got != (said{s: text}) {
			t.Errorf("Text(%x): %v; wanted %s", f, got, text)
		}
		if got := toFlags(ReadText(text)); got != (flagged{f: f}) {
			t.Errorf("ReadText(%q): %v; wanted %x", text, got, f)
		}
	}
}

// P21.5, by hand: each flag's own word.
func TestWords(t *testing.T) {
	for f, word := range map[api.Flags]string{api.Invalid: "nv", api.DivZero: "dz", api.Overflow: "of", api.Underflow: "uf", api.Inexact: "nx"} {
		if got := toText(Text(f)); got != (said{s: word}) {
			t.Errorf("Text(%d): %v", f, got)
		}
		if got := toFlags(ReadText(word)); got != (flagged{f: f}) {
			t.Errorf("ReadText(%q): %v", word, got)
		}
	}
}

// P21.5: flags beyond the five have no text, whatever is beside them.
func TestNoFlags(t *testing.T) {
	for f := 32; f <= math.MaxUint8; f++ {
		if got := toText(Text(api.Flags(f))); got != (said{e: api.ErrArg}) {
			t.Errorf("Text(%x): %v", f, got)
		}
	}
}

// P21.5, by hand: what is no text, though it is near to one.
func TestNoText(t *testing.T) {
	for _, s := range []string{
		"", " ", "+", "--", "-+", "+-", "- ", "-nx", "nx-", "-+nx", "nx+-", "0", "none",
		"nx+", "+nx", "nx+nx", "nv++nx", "nv nx", "nv,nx", "nvnx", "nv+ nx", " nx", "nx ", "nx\n", "nx\x00",
		"nx+of", "uf+of", "of+dz", "dz+nv", "nx+uf+of+dz+nv", "nv+dz+of+nx+uf",
		"NX", "Nx", "nX", "n", "v", "n+v", "xn", "vn", "nv+dz+of+uf+nx+", "nv+dz+of+uf+nx+nv",
		"nv+dz+of+uf+nx+no", "of+nz", "nv-nx", "ｎｖ", "nv\xff", "\xff", "–",
		strings.Repeat("nv+", 1<<18) + "nx", strings.Repeat("-", 1<<18), strings.Repeat("+", 1<<18),
	} {
		if got := toFlags(ReadText(s)); got != (flagged{e: api.ErrFlags}) {
			t.Errorf("ReadText(%.20q): %v", s, got)
		}
	}
}

// P21.5: all texts of up to five letters of those that flags are written with.
func TestShortTexts(t *testing.T) {
	const letters = "nvdzofux+-"
	list, begin := []string{""}, 0
	for range 5 {
		end := len(list)
		for _, s := range list[begin:end] {
			for i := range letters {
				list = append(list, s+letters[i:i+1])
			}
		}
		begin = end
	}
	for _, s := range list {
		if got, want := toFlags(ReadText(s)), read(s); got != want {
			t.Errorf("ReadText(%q): %v; wanted %v", s, got, want)
		}
	}
}

// P21.5: up to six of the words in any order, joined in several ways.
func TestJoinedTexts(t *testing.T) {
	rows := [][]string{{}}
	for begin := 0; begin < len(rows) && len(rows[begin]) < 6; begin++ {
		for _, w := range []string{"nv", "dz", "of", "uf", "nx"} {
			rows = append(rows, append(rows[begin][:len(rows[begin]):len(rows[begin])], w))
		}
	}
	found := map[string]bool{}
	for _, row := range rows {
		for _, by := range []string{"+", "", "-", " ", "++", "+ "} {
			s := strings.Join(row, by)
			got, want := toFlags(ReadText(s)), read(s)
			if got != want {
				t.Errorf("ReadText(%q): %v; wanted %v", s, got, want)
			}
			if got.e == api.OK {
				found[s] = true
			}
		}
	}
	if len(found) != 31 {
		t.Errorf("%d texts were read; wanted 31", len(found))
	}
}

// P0.1: of each byte of a text another one, one more, one less.
func TestChangedTexts(t *testing.T) {
	for _, text := range texts {
		for i := range len(text) + 1 {
			for b := range 256 {
				list := []string{text[:i] + string([]byte{byte(b)}) + text[i:]}
				if i < len(text) {
					list = append(list, text[:i]+text[i+1:], text[:i]+string([]byte{byte(b)})+text[i+1:])
				}
				for _, s := range list {
					if got, want := toFlags(ReadText(s)), read(s); got != want {
						t.Fatalf("ReadText(%q): %v; wanted %v", s, got, want)
					}
				}
			}
		}
	}
}
