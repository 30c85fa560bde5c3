package text

import (
	"bytes"
	"encoding/binary"
	"fmt"
	"regexp"
	"slices"
	"strings"
	"testing"

	"abacus/api"
)

// bytes are the words' bytes and up to three more.
func (s *source) bytes(words int) []byte {
	var b []byte
	for range words {
		b = binary.LittleEndian.AppendUint32(b, s.word())
	}
	for range s.below(4) {
		b = append(b, byte(s.next()>>9))
	}
	return b
}

var listLine = regexp.MustCompile(`(?s)\A([0-9a-f]{6}) (?:\.byte ([0-9a-f]{2})|(.*))\z`)

// modelReadList is what ReadList answers of lines that are not too many.
func modelReadList(l []string) bytesRead {
	var b []byte
	single := 0
	for i, line := range l {
		wrong := bytesRead{at: i, e: api.ErrLine}
		found := listLine.FindStringSubmatch(line)
		if found == nil || found[1] != fmt.Sprintf("%06x", len(b)) {
			return wrong
		}
		if found[2] != "" {
			single++
			if single > 3 {
				return wrong
			}
			var n byte
			fmt.Sscanf(found[2], "%x", &n)
			b = append(b, n)
			continue
		}
		w := modelReadWord(found[3])
		if w.e != api.OK || single > 0 {
			return wrong
		}
		b = binary.LittleEndian.AppendUint32(b, w.w)
	}
	return bytesRead{b: string(b), at: len(l)}
}

// listsByHand are lists with their bytes.
var listsByHand = []struct {
	b string
	l []string
}{
	{"", nil},
	{"\x00", []string{"000000 .byte 00"}},
	{"\xff", []string{"000000 .byte ff"}},
	{"\x0a\xb1", []string{"000000 .byte 0a", "000001 .byte b1"}},
	{"\x53\x00\x00", []string{"000000 .byte 53", "000001 .byte 00", "000002 .byte 00"}},
	{"\x53\x00\x00\x00", []string{"000000 fadd.s f0, f0, f0, rne"}},
	{"\x78\x56\x34\x12", []string{"000000 .word 12345678"}},
	{"\x00\x00\x00\x00\x01", []string{"000000 .word 00000000", "000004 .byte 01"}},
	{"\x27\x2e\x11\xfe\xff\xff\xff\xff\x07\x08", []string{"000000 fsw f1, -4(x2)", "000004 .word ffffffff", "000008 .byte 07", "000009 .byte 08"}},
	{"\xf3\xd0\x21\x00\xc3\x70\x31\x20\xc3\x70\x31\x20\xd3\x50\x31\x00\xfe\xdc\xba", []string{"000000 csrrwi x1, frm, 3", "000004 fmadd.s f1, f2, f3, f4, dyn", "000008 fmadd.s f1, f2, f3, f4, dyn", "00000c .word 003150d3", "000010 .byte fe", "000011 .byte dc", "000012 .byte ba"}},
}

// P27.4, by hand: bytes as lists, and back.
func TestListByHand(t *testing.T) {
	for _, x := range listsByHand {
		if l, e := List([]byte(x.b)); !slices.Equal(l, x.l) || e != api.OK {
			t.Errorf("List(%x): %q, %v; wanted %q", x.b, l, e, x.l)
		}
		if got := toBytes(ReadList(x.l...)); got != (bytesRead{b: x.b, at: len(x.l)}) {
			t.Errorf("ReadList(%q): %v; wanted %x", x.l, got, x.b)
		}
	}
	if l, e := List(nil); len(l) != 0 || e != api.OK {
		t.Error("List(nil):", l, e)
	}
}

// P27.4: each byte as the one that is left, in each place.
func TestBytesLeft(t *testing.T) {
	for n := range 256 {
		b := []byte{byte(n), byte(n + 1), byte(n + 2)}
		for count := range 4 {
			l, e := List(b[:count])
			if !slices.Equal(l, modelList(b[:count])) || len(l) != count || e != api.OK {
				t.Fatalf("List(%x): %q, %v", b[:count], l, e)
			}
			if got := toBytes(ReadList(l...)); got != (bytesRead{b: string(b[:count]), at: count}) {
				t.Fatalf("ReadList(%q): %v", l, got)
			}
		}
	}
}

// P27.4, by hand: lines that are no list's, and the first place at which they are none.
func TestNoListByHand(t *testing.T) {
	const add = "fadd.s f0, f0, f0, rne"
	for _, x := range []struct {
		l  []string
		at int
	}{
		{[]string{""}, 0}, {[]string{" "}, 0}, {[]string{"000000"}, 0}, {[]string{"000000 "}, 0}, {[]string{add}, 0}, {[]string{".byte 01"}, 0},
		{[]string{"", "000000 " + add}, 0}, {[]string{"000000 " + add, ""}, 1}, {[]string{"000000 " + add, "000004 " + add, "\n"}, 2},

		// Places.
		{[]string{"000004 " + add}, 0}, {[]string{"000001 .byte 01"}, 0}, {[]string{"000000 " + add, "000000 " + add}, 1}, {[]string{"000000 " + add, "000001 " + add}, 1},
		{[]string{"000000 " + add, "000005 .byte 01"}, 1}, {[]string{"000000 .byte 01", "000000 .byte 02"}, 1}, {[]string{"000000 .byte 01", "000004 .byte 02"}, 1},
		{[]string{"000000 " + add, "000008 " + add, "000004 " + add}, 1},
		{[]string{"00000 " + add}, 0}, {[]string{"0000000 " + add}, 0}, {[]string{"00000000 " + add}, 0}, {[]string{"0 " + add}, 0}, {[]string{"0x0000 " + add}, 0}, {[]string{"-00000 " + add}, 0},
		{[]string{"000000  " + add}, 0}, {[]string{" 000000 " + add}, 0}, {[]string{"000000" + add}, 0}, {[]string{"000000\t" + add}, 0}, {[]string{"000000: " + add}, 0},
		{[]string{"000000 " + add, "000004 " + add, "000008 " + add, "00000C " + add}, 3},

		// No lines.
		{[]string{"000000 " + add + " "}, 0}, {[]string{"000000 fadd.s f0, f0, f0"}, 0}, {[]string{"000000 .word 00000053"}, 0}, {[]string{"000000 .word 0"}, 0},
		{[]string{"000000 .byte"}, 0}, {[]string{"000000 .byte "}, 0}, {[]string{"000000 .byte 1"}, 0}, {[]string{"000000 .byte 001"}, 0}, {[]string{"000000 .byte 0A"}, 0}, {[]string{"000000 .byte 0g"}, 0},
		{[]string{"000000 .byte  01"}, 0}, {[]string{"000000 .byte 01 "}, 0}, {[]string{"000000 .byte 01 02"}, 0}, {[]string{"000000 .Byte 01"}, 0}, {[]string{"000000 .byte01"}, 0}, {[]string{"000000 .byte +1"}, 0},
		{[]string{"000000 .byte 01\n000001 .byte 02"}, 0}, {[]string{"000000 000000 " + add}, 0}, {[]string{"000000 .half 0000"}, 0},

		// Bytes ahead of a word: the lines are a list's up to the word.
		{[]string{"000000 .byte 01", "000001 " + add}, 1}, {[]string{"000000 .byte 01", "000004 " + add}, 1}, {[]string{"000000 .byte 01", "000001 .word 00000000"}, 1},
		{[]string{"000000 .byte 01", "000001 .byte 02", "000002 " + add}, 2}, {[]string{"000000 .byte 01", "000001 .byte 02", "000002 .byte 03", "000003 " + add}, 3},
		{[]string{"000000 " + add, "000004 .byte 01", "000005 " + add, "000009 .byte 01"}, 2},

		// More than three.
		{[]string{"000000 .byte 01", "000001 .byte 02", "000002 .byte 03", "000003 .byte 04"}, 3},
		{[]string{"000000 " + add, "000004 .byte 01", "000005 .byte 02", "000006 .byte 03", "000007 .byte 04"}, 4},
		{[]string{"000000 .byte 01", "000001 .byte 02", "000002 .byte 03", "000003 .byte 04", "000004 " + add}, 3},
		{[]string{"000000 .byte 01", "000001 .byte 02", "000002 .byte 03", "000003 .byte 04", "000004 .byte 05"}, 3},
	} {
		b, at, e := ReadList(x.l...)
		if got := toBytes(b, at, e); got != (bytesRead{at: x.at, e: api.ErrLine}) || cap(b) != 0 {
			t.Errorf("ReadList(%q): %v; wanted ErrLine at %d", x.l, got, x.at)
		}
	}
}

// bare tells whether in the room behind the list nothing stands.
func bare[T comparable](l []T) bool {
	var zero T
	for _, x := range l[len(l):cap(l)] {
		if x != zero {
			return false
		}
	}
	return true
}

// P27.4, P27.5 and P0.1: bytes of all lengths there and back; what is handed in stays, spare room too, and what is told may be written over.
func TestLists(t *testing.T) {
	s := source(38)
	for n := range 1500 {
		room := s.bytes(n%40 + 1)
		b := room[:s.below(len(room)+1)]
		keptRoom, want := slices.Clone(room), modelList(b)
		for range 2 {
			l, e := List(b)
			if !slices.Equal(l, want) || e != api.OK || !bare(l) {
				t.Fatalf("List(%x): %q, %v; wanted %q", b, l, e, want)
			}
			lines := append(slices.Clone(l), "spare")
			keptLines := slices.Clone(lines)
			back, at, e := ReadList(lines[:len(l)]...)
			if !bytes.Equal(back, b) || at != len(l) || e != api.OK || !bare(back) {
				t.Fatalf("ReadList(%q): %x, %d, %v; wanted %x", l, back, at, e, b)
			}
			if !bytes.Equal(room, keptRoom) || !slices.Equal(lines, keptLines) {
				t.Fatal("what was handed in is another")
			}
			clear(l[:cap(l)])
			clear(back[:cap(back)])
			if !bytes.Equal(room, keptRoom) || !slices.Equal(lines, keptLines) {
				t.Fatal("what was told shares memory with what was handed in")
			}
		}
	}
}

// damagedList is a list with one thing that is another.
func (s *source) damagedList(l []string) []string {
	l = slices.Clone(l)
	if len(l) == 0 {
		return []string{s.damaged("")}
	}
	at, other := s.below(len(l)), s.below(len(l))
	switch s.below(6) {
	case 0:
		return slices.Delete(l, at, at+1)
	case 1:
		return slices.Insert(l, at, l[other])
	case 2:
		l[at], l[other] = l[other], l[at]
		return l
	case 3:
		return slices.Insert(l, at, fmt.Sprintf("%s .byte %02x", l[at][:min(6, len(l[at]))], s.below(256)))
	case 4:
		l[at] = fmt.Sprintf("%s .byte %02x", l[at][:min(6, len(l[at]))], s.below(256))
		return l
	default:
		l[at] = s.damaged(l[at])
		return l
	}
}

// P27.4 and P27.5: lists with up to two things damaged; what is read is told as it was.
func TestReadList(t *testing.T) {
	s := source(39)
	counts := map[api.Errno]int{}
	for range 30000 {
		b := s.bytes(s.below(6))
		l := modelList(b)
		for range s.below(3) {
			l = s.damagedList(l)
		}
		back, at, e := ReadList(l...)
		got := toBytes(back, at, e)
		if want := modelReadList(l); got != want || !bare(back) {
			t.Fatalf("ReadList(%q): %v; wanted %v", l, got, want)
		}
		if e == api.OK {
			if again, e := List(back); !slices.Equal(again, l) || e != api.OK {
				t.Fatalf("%q are %x, which are %q, %v", l, back, again, e)
			}
		}
		counts[e]++
	}
	if counts[api.OK] < 5000 || counts[api.ErrLine] < 5000 {
		t.Error("too few of some kind:", counts)
	}
}

// P27.4: the first place is that of the first line by which the lines are no beginning of any list: up to it they are one.
func TestFirstPlace(t *testing.T) {
	s := source(40)
	for range 5000 {
		l := s.damagedList(modelList(s.bytes(1 + s.below(6))))
		b, at, e := ReadList(l...)
		if e == api.OK {
			continue
		}
		if b, n, e := ReadList(l[:at]...); n != at || e != api.OK {
			t.Fatalf("ReadList(%q): %x, %d, %v", l[:at], b, n, e)
		}
		if b, n, e := ReadList(l[:at+1]...); len(b) != 0 || n != at || e != api.ErrLine {
			t.Fatalf("ReadList(%q): %x, %d, %v", l[:at+1], b, n, e)
		}
		if len(b) != 0 {
			t.Fatalf("ReadList(%q): %x", l, b)
		}
	}
}

// P27.4 and P27.5: lists of as many lines as there may be, and of one more.
func TestBounds(t *testing.T) {
	s := source(41)
	var b []byte
	for range api.MaxList + 1 {
		b = binary.LittleEndian.AppendUint32(b, s.word())
	}
	const most = 4 * api.MaxList
	for length, is := range map[int]bool{
		most - 4: true,
		most - 3: true, // a word less and one byte: a line for each
		most - 2: false,
		most - 1: false,
		most:     true,
		most + 1: false,
		most + 4: false,
	} {
		l, e := List(b[:length])
		if !is {
			if len(l) != 0 || e != api.ErrLong {
				t.Errorf("List of %d bytes: %d lines, %v", length, len(l), e)
			}
			continue
		}
		if !slices.Equal(l, modelList(b[:length])) || e != api.OK {
			t.Errorf("List of %d bytes: %d lines, %v", length, len(l), e)
		}
		if back, at, e := ReadList(l...); !bytes.Equal(back, b[:length]) || at != len(l) || e != api.OK {
			t.Errorf("ReadList of %d lines: %d bytes, %d, %v", len(l), len(back), at, e)
		}
	}
	l, _ := List(b[:most])
	if l[api.MaxList-1][:6] != "03fffc" {
		t.Error("the last line:", l[api.MaxList-1])
	}
	l = append(l, "040000 .byte 00")
	if got := toBytes(ReadList(l...)); got != (bytesRead{e: api.ErrLong}) {
		t.Error("a line too many:", got.at, got.e)
	}
	l[0] = "" // too many lines is told ahead of a line that is none
	if got := toBytes(ReadList(l...)); got != (bytesRead{e: api.ErrLong}) {
		t.Error("a line too many, and one that is none:", got.at, got.e)
	}
	l = l[:api.MaxList]
	if got := toBytes(ReadList(l...)); got != (bytesRead{e: api.ErrLine}) {
		t.Error("the first line is none:", got.at, got.e)
	}
	if got := toBytes(ReadList(make([]string, 10*api.MaxList)...)); got != (bytesRead{e: api.ErrLong}) {
		t.Error("far too many lines:", got.at, got.e)
	}
	if l, e := List(make([]byte, 10*most)); len(l) != 0 || e != api.ErrLong {
		t.Error("far too many bytes:", len(l), e)
	}
}

// The rules: lines of great length are none, and are told so at once.
func TestLongLines(t *testing.T) {
	for _, c := range []string{"0", " ", "f", ".byte ", "000000 "} {
		long := strings.Repeat(c, 1<<20/len(c))
		for _, s := range []string{long, "000000 " + long, "000000 .byte " + long, "000000 .byte 01" + long} {
			if got := toBytes(ReadList(s)); got != (bytesRead{e: api.ErrLine}) {
				t.Errorf("ReadList of many %q: %v", c, got)
			}
		}
	}
}
