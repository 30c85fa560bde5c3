package decode

import (
	"bytes"
	"encoding/binary"
	"math/bits"
	"slices"
	"testing"

	"abacus/api"
)

// The chapter's examples.
func TestExamples(t *testing.T) {
	for w, want := range map[uint32]told{
		0x003100d3: {x: api.Inst{Op: api.Add, Form: api.Single, Rd: 1, Rs1: 2, Rs2: 3}},
		0xffc12087: {x: api.Inst{Op: api.Load, Form: api.Single, Rd: 1, Rs1: 2, Imm: -4}},
		0xfe112e27: {x: api.Inst{Op: api.Store, Form: api.Single, Rs1: 2, Rs2: 1, Imm: -4}},
		0x203170c3: {x: api.Inst{Op: api.MulAdd, Form: api.Single, Rd: 1, Rs1: 2, Rs2: 3, Rs3: 4, Rm: 7}},
		0x0021d0f3: {x: api.Inst{Op: api.CsrSwapI, Rd: 1, Rs1: 3, Csr: 2}},
		0:          {e: api.ErrIllegal},
		0xffffffff: {e: api.ErrIllegal},
	} {
		if got := toTold(Decode(w)); got != want {
			t.Errorf("Decode(%08x): %+v; wanted %+v", w, got, want)
		}
	}
	for w, want := range map[uint32]api.Use{0xfe112e27: {ReadX: 4, ReadF: 2}, 0x0021d0f3: {WriteX: 2}} {
		if got := toUsed(Uses(w)); got != (used{u: want}) {
			t.Errorf("Uses(%08x): %+v; wanted %+v", w, got, want)
		}
	}
	for w, want := range map[uint32]masked{0x003150d3: {e: api.ErrIllegal}, 0x083100d3: {e: api.ErrArg}, 0x00000053: {mask: 0x01ffff80}} {
		if got := toMasked(Same(0x003100d3, w)); got != want {
			t.Errorf("Same(003100d3, %08x): %+v; wanted %+v", w, got, want)
		}
	}
}

// byHand are words with the instructions that they are, as manuals have them: one for each Op at least, and the edges of imm.
var byHand = []struct {
	w uint32
	x api.Inst
}{
	{0x00002007, api.Inst{Op: api.Load}},
	{0x7ff53f87, api.Inst{Op: api.Load, Form: api.Double, Rd: 31, Rs1: 10, Imm: 2047}},
	{0x80051f87, api.Inst{Op: api.Load, Form: api.Half, Rd: 31, Rs1: 10, Imm: -2048}},
	{0xffffcf87, api.Inst{Op: api.Load, Form: api.Quad, Rd: 31, Rs1: 31, Imm: -1}},
	{0x00102007, api.Inst{Op: api.Load, Imm: 1}},
	{0x02002007, api.Inst{Op: api.Load, Imm: 32}},
	{0x00002027, api.Inst{Op: api.Store}},
	{0x7eb53fa7, api.Inst{Op: api.Store, Form: api.Double, Rs1: 10, Rs2: 11, Imm: 2047}},
	{0x80b51027, api.Inst{Op: api.Store, Form: api.Half, Rs1: 10, Rs2: 11, Imm: -2048}},
	{0xffffcfa7, api.Inst{Op: api.Store, Form: api.Quad, Rs1: 31, Rs2: 31, Imm: -1}},
	{0x000020a7, api.Inst{Op: api.Store, Imm: 1}},
	{0x00002827, api.Inst{Op: api.Store, Imm: 16}},
	{0x02002027, api.Inst{Op: api.Store, Imm: 32}},
	{0x80002fa7, api.Inst{Op: api.Store, Imm: -2017}},
	{0x22c5f543, api.Inst{Op: api.MulAdd, Form: api.Double, Rd: 10, Rs1: 11, Rs2: 12, Rs3: 4, Rm: 7}},
	{0xf8000047, api.Inst{Op: api.MulSub, Rs3: 31}},
	{0x2c60c24b, api.Inst{Op: api.NegMulSub, Form: api.Half, Rd: 4, Rs1: 1, Rs2: 6, Rs3: 5, Rm: 4}},
	{0x2e60a24f, api.Inst{Op: api.NegMulAdd, Form: api.Quad, Rd: 4, Rs1: 1, Rs2: 6, Rs3: 5, Rm: 2}},
	{0x00b576d3, api.Inst{Op: api.Add, Rd: 13, Rs1: 10, Rs2: 11, Rm: 7}},
	{0x0a7372d3, api.Inst{Op: api.Sub, Form: api.Double, Rd: 5, Rs1: 6, Rs2: 7, Rm: 7}},
	{0x147312d3, api.Inst{Op: api.Mul, Form: api.Half, Rd: 5, Rs1: 6, Rs2: 7, Rm: 1}},
	{0x1e7322d3, api.Inst{Op: api.Div, Form: api.Quad, Rd: 5, Rs1: 6, Rs2: 7, Rm: 2}},
	{0x5a0332d3, api.Inst{Op: api.Sqrt, Form: api.Double, Rd: 5, Rs1: 6, Rm: 3}},
	{0x207302d3, api.Inst{Op: api.SignCopy, Rd: 5, Rs1: 6, Rs2: 7}},
	{0x227312d3, api.Inst{Op: api.SignNot, Form: api.Double, Rd: 5, Rs1: 6, Rs2: 7}},
	{0x247322d3, api.Inst{Op: api.SignXor, Form: api.Half, Rd: 5, Rs1: 6, Rs2: 7}},
	{0x287302d3, api.Inst{Op: api.Min, Rd: 5, Rs1: 6, Rs2: 7}},
	{0x2e7312d3, api.Inst{Op: api.Max, Form: api.Quad, Rd: 5, Rs1: 6, Rs2: 7}},
	{0x401372d3, api.Inst{Op: api.Convert, From: api.Double, Rd: 5, Rs1: 6, Rm: 7}},
	{0x420302d3, api.Inst{Op: api.Convert, Form: api.Double, Rd: 5, Rs1: 6}},
	{0x462342d3, api.Inst{Op: api.Convert, Form: api.Quad, From: api.Half, Rd: 5, Rs1: 6, Rm: 4}},
	{0xa07322d3, api.Inst{Op: api.Eq, Rd: 5, Rs1: 6, Rs2: 7}},
	{0xa27312d3, api.Inst{Op: api.Lt, Form: api.Double, Rd: 5, Rs1: 6, Rs2: 7}},
	{0xa47302d3, api.Inst{Op: api.Le, Form: api.Half, Rd: 5, Rs1: 6, Rs2: 7}},
	{0xc00312d3, api.Inst{Op: api.ToInt, Rd: 5, Rs1: 6, Rm: 1}},
	{0xc23372d3, api.Inst{Op: api.ToInt, Form: api.Double, Kind: api.LU, Rd: 5, Rs1: 6, Rm: 7}},
	{0xd01372d3, api.Inst{Op: api.FromInt, Kind: api.WU, Rd: 5, Rs1: 6, Rm: 7}},
	{0xd62302d3, api.Inst{Op: api.FromInt, Form: api.Quad, Kind: api.L, Rd: 5, Rs1: 6}},
	{0xe00302d3, api.Inst{Op: api.ToWord, Rd: 5, Rs1: 6}},
	{0xe40302d3, api.Inst{Op: api.ToWord, Form: api.Half, Rd: 5, Rs1: 6}},
	{0xe60312d3, api.Inst{Op: api.Classify, Form: api.Quad, Rd: 5, Rs1: 6}},
	{0xf20302d3, api.Inst{Op: api.OfWord, Form: api.Double, Rd: 5, Rs1: 6}},
	{0x001110f3, api.Inst{Op: api.CsrSwap, Rd: 1, Rs1: 2, Csr: 1}},
	{0x0020a073, api.Inst{Op: api.CsrSet, Rs1: 1, Csr: 2}},
	{0x0030bff3, api.Inst{Op: api.CsrClear, Rd: 31, Rs1: 1, Csr: 3}},
	{0x001fd073, api.Inst{Op: api.CsrSwapI, Rs1: 31, Csr: 1}},
	{0x00206ff3, api.Inst{Op: api.CsrSetI, Rd: 31, Csr: 2}},
	{0x003870f3, api.Inst{Op: api.CsrClearI, Rd: 1, Rs1: 16, Csr: 3}},
}

// P25.1, by hand: each Op's words, and the fields that they have.
func TestDecodeByHand(t *testing.T) {
	seen := map[api.Op]bool{}
	for _, x := range byHand {
		if got := toTold(Decode(x.w)); got != (told{x: x.x}) || !Legal(x.w) {
			t.Errorf("Decode(%08x): %+v, Legal %v; wanted %+v", x.w, got, Legal(x.w), x.x)
		}
		seen[x.x.Op] = true
	}
	if len(seen) != int(api.CsrClearI) {
		t.Error("Ops by hand:", len(seen))
	}
}

// P25.1, by hand: words that are none.
func TestIllegalByHand(t *testing.T) {
	for _, w := range []uint32{
		0x00000013, 0x00000073, 0x00100073, // none of these extensions
		0x00000007, 0x00005007, 0x00006007, 0x00007007, 0x00000027, 0x00005027, // no width
		0x003150d3, 0x003160d3, 0x58005053, 0x58006053, // the modes 5 and 6
		0x58107053, 0x5ff07053, // rs2 of a root is 0
		0x40000053, 0x42100053, // From is Form
		0x40400053, 0xc0400053, 0xd1f00053, // neither a format nor a kind
		0xe6000053, 0xf6000053, 0xe0002053, 0xf0001053, 0xe0100053, // moves
		0x20003053, 0x28002053, 0xa0003053, 0x0a000000, // no such rm; an opcode of 0
		0x00001073, 0x00401073, 0x80101073, 0x00104073, 0x00100073, // control registers 0, 4, 801; no such rm
		0x003100d0, 0x003100d1, 0x003100d2, // not of 32 bits
	} {
		if got := toTold(Decode(w)); got != (told{e: api.ErrIllegal}) || Legal(w) {
			t.Errorf("Decode(%08x): %+v, Legal %v; wanted none", w, got, Legal(w))
		}
	}
}

// holds holds w's Decode and Legal against the model, and, of an instruction, P25.4 and P25.5: the word can be made of it again, and no field is beyond its bounds.
func holds(t *testing.T, w uint32) (is bool) {
	t.Helper()
	want := modelDecode(w)
	got := toTold(Decode(w))
	is = want.e == api.OK
	if got != want || Legal(w) != is {
		t.Fatalf("Decode(%08x): %+v, Legal %v; wanted %+v", w, got, Legal(w), want)
	}
	if !is {
		return false
	}
	x := got.x
	if v := word(x); v != w {
		t.Fatalf("%08x is %+v, which is %08x", w, x, v)
	}
	if max(x.Rd, x.Rs1, x.Rs2, x.Rs3) > 31 || x.Imm < -2048 || x.Imm > 2047 || x.Csr > 3 || x.Rm > 4 && x.Rm != 7 {
		t.Fatalf("%08x: %+v is beyond its bounds", w, x)
	}
	return true
}

// P25.1, P25.4 and P25.5: all words, but that the registers rd and rs1 of each are some.
func TestDecode(t *testing.T) {
	s := source(25)
	counts := map[api.Op]int{}
	for low := range uint32(1 << 10) {
		for high := range uint32(1 << 12) {
			w := high<<20 | low>>7<<12 | low&127 | uint32(s.next())&0x000f8f80
			if holds(t, w) {
				x, _ := Decode(w)
				counts[x.Op]++
			}
		}
	}
	if len(counts) != len(book) {
		t.Error("Ops that were met:", len(counts))
	}
}

// P25.1 and P25.4: words of all looks, and these with each bit turned.
func TestDecodeNear(t *testing.T) {
	s := source(26)
	for _, l := range looks {
		for range 300 {
			w := s.legal(l)
			x, _ := Decode(w)
			if !holds(t, w) {
				t.Fatalf("%08x is no instruction", w)
			}
			for at := range 32 {
				v := w ^ 1<<at
				if y, e := Decode(v); holds(t, v) && (x == y || e != api.OK) {
					t.Fatalf("%08x and %08x are both %+v", w, v, x)
				}
			}
		}
	}
}

// P25.1: each register, each number of five bits in its place, and each imm.
func TestFields(t *testing.T) {
	for n := range uint32(32) {
		for _, x := range []struct {
			w    uint32
			want api.Inst
		}{
			{0x20000043 | n<<7, api.Inst{Op: api.MulAdd, Rs3: 4, Rd: uint8(n)}},
			{0x20000043 | n<<15, api.Inst{Op: api.MulAdd, Rs3: 4, Rs1: uint8(n)}},
			{0x20000043 | n<<20, api.Inst{Op: api.MulAdd, Rs3: 4, Rs2: uint8(n)}},
			{0x00000043 | n<<27, api.Inst{Op: api.MulAdd, Rs3: uint8(n)}},
			{0x00105073 | n<<15, api.Inst{Op: api.CsrSwapI, Csr: 1, Rs1: uint8(n)}},
		} {
			if got := toTold(Decode(x.w)); got != (told{x: x.want}) {
				t.Errorf("Decode(%08x): %+v; wanted %+v", x.w, got, x.want)
			}
		}
	}
	for imm := -2048; imm <= 2047; imm++ {
		low := uint32(imm) & 0xfff
		if got := toTold(Decode(0x2007 | low<<20)); got != (told{x: api.Inst{Op: api.Load, Imm: int16(imm)}}) {
			t.Errorf("a Load's imm %d: %+v", imm, got)
		}
		if got := toTold(Decode(0x2027 | low>>5<<25 | low&31<<7)); got != (told{x: api.Inst{Op: api.Store, Imm: int16(imm)}}) {
			t.Errorf("a Store's imm %d: %+v", imm, got)
		}
	}
}

// P25.4: of many words that are instructions no two are the same one.
func TestUnlike(t *testing.T) {
	s := source(27)
	seen := map[api.Inst]uint32{}
	for range 20000 {
		w := s.legal(looks[s.next()%uint64(len(looks))])
		x, e := Decode(w)
		if v, is := seen[x]; e != api.OK || is && v != w {
			t.Fatalf("%08x and %08x are %+v, %v", v, w, x, e)
		}
		seen[x] = w
	}
}

// P25.5: what a word is hangs on it alone, whatever was asked ahead.
func TestDecodeAgain(t *testing.T) {
	s := source(28)
	words := make([]uint32, 2000)
	first := make([]told, len(words))
	for i := range words {
		words[i] = s.any()
		first[i] = toTold(Decode(words[i]))
	}
	for i := len(words) - 1; i >= 0; i-- {
		if got := toTold(Decode(words[i])); got != first[i] {
			t.Fatalf("Decode(%08x): %+v, and ahead %+v", words[i], got, first[i])
		}
	}
}

// many is what All answers.
type many struct {
	l  []api.Inst
	at int
	e  api.Errno
}

func toMany(l []api.Inst, at int, e api.Errno) many { return many{l, at, e} }

func (m many) is(o many) bool {
	return slices.Equal(m.l, o.l) && m.at == o.at && m.e == o.e
}

// modelAll is what All answers of these words.
func modelAll(l []uint32) many {
	var out many
	for i, w := range l {
		x := modelDecode(w)
		if x.e != api.OK {
			return many{at: i, e: api.ErrIllegal}
		}
		out.l = append(out.l, x.x)
	}
	out.at = len(l)
	return out
}

// P25.1: no words, one, two, and where the first one is that is none.
func TestAllByHand(t *testing.T) {
	add := api.Inst{Op: api.Add, Rd: 1, Rs1: 2, Rs2: 3}
	swap := api.Inst{Op: api.CsrSwapI, Rd: 1, Rs1: 3, Csr: 2}
	for _, x := range []struct {
		l    []uint32
		want many
	}{
		{nil, many{}},
		{[]uint32{}, many{}},
		{[]uint32{0x003100d3}, many{l: []api.Inst{add}, at: 1}},
		{[]uint32{0x003100d3, 0x0021d0f3}, many{l: []api.Inst{add, swap}, at: 2}},
		{[]uint32{0x0021d0f3, 0x003100d3, 0x003100d3}, many{l: []api.Inst{swap, add, add}, at: 3}},
		{[]uint32{0}, many{at: 0, e: api.ErrIllegal}},
		{[]uint32{0, 0x003100d3}, many{at: 0, e: api.ErrIllegal}},
		{[]uint32{0x003100d3, 0}, many{at: 1, e: api.ErrIllegal}},
		{[]uint32{0x003100d3, 0x003150d3, 0x003100d3, 0}, many{at: 1, e: api.ErrIllegal}},
	} {
		got := toMany(All(x.l...))
		if !got.is(x.want) || x.want.e != api.OK && len(got.l[:cap(got.l)]) != 0 {
			t.Errorf("All(%08x): %+v; wanted %+v", x.l, got, x.want)
		}
	}
}

// P25.1 and P0.1: lists with none, one and several words that are none; what is handed in stays, what is told may be written over.
func TestAll(t *testing.T) {
	s := source(29)
	for range 2000 {
		room := make([]uint32, 20)
		for i := range room {
			room[i] = s.legal(looks[s.next()%uint64(len(looks))])
		}
		for range s.next() % 3 {
			room[s.next()%20] = s.any()
		}
		l := room[:s.next()%20]
		kept := slices.Clone(room)
		want := modelAll(l)
		got := toMany(All(l...))
		if !got.is(want) || !slices.Equal(room, kept) {
			t.Fatalf("All(%08x): %+v; wanted %+v", l, got, want)
		}
		for _, x := range got.l[len(got.l):cap(got.l)] {
			if x != (api.Inst{}) {
				t.Fatal("behind the list stands", x)
			}
		}
		clear(got.l[:cap(got.l)])
		if again := toMany(All(l...)); !again.is(want) || !slices.Equal(room, kept) {
			t.Fatalf("All(%08x), again: %+v; wanted %+v", l, again, want)
		}
	}
}

// P25.1: a long list.
func TestAllLong(t *testing.T) {
	l := slices.Repeat([]uint32{0x003100d3, 0xffc12087}, 5000)
	if got := toMany(All(l...)); !got.is(modelAll(l)) {
		t.Error("a list of 10000 words:", got.at, got.e)
	}
	l[9999] = 0
	if got := toMany(All(l...)); !got.is(many{at: 9999, e: api.ErrIllegal}) {
		t.Error("a list whose last word is none:", got.at, got.e)
	}
}

// placed is what Words tells at once.
type placed struct {
	at int
	w  uint32
}

// modelWords is what Words tells of b.
func modelWords(b []byte) []placed {
	var out []placed
	for at := 0; at+4 <= len(b); at += 4 {
		out = append(out, placed{at, binary.LittleEndian.Uint32(b[at:])})
	}
	return out
}

// some are n bytes, and others behind them.
func (s *source) some(n int) []byte {
	b := make([]byte, n+9)
	for i := range b {
		b[i] = byte(s.next() >> 13)
	}
	return b[:n]
}

// P25.2, by hand: the lowest byte comes first, and what is no whole word is left out.
func TestWordsByHand(t *testing.T) {
	for _, x := range []struct {
		b    []byte
		want []placed
	}{
		{nil, nil},
		{[]byte{}, nil},
		{[]byte{1, 2, 3}, nil},
		{[]byte{0xd3, 0, 0x31, 0}, []placed{{0, 0x003100d3}}},
		{[]byte{1, 2, 3, 0x84, 5, 6, 7}, []placed{{0, 0x84030201}}},
		{[]byte{1, 0, 0, 0, 0, 0, 0, 0x80, 9}, []placed{{0, 1}, {4, 0x80000000}}},
	} {
		var got []placed
		for at, w := range Words(x.b) {
			got = append(got, placed{at, w})
		}
		if !slices.Equal(got, x.want) {
			t.Errorf("Words(%x): %x; wanted %x", x.b, got, x.want)
		}
	}
}

// P25.2 and P0.1: bytes of all lengths up to 70; a walk may be left early, gone over again, and gone over within itself; the bytes stay.
func TestWords(t *testing.T) {
	s := source(30)
	for n := range 71 {
		b := s.some(n)
		kept := slices.Clone(b[:cap(b)])
		want := modelWords(b)
		walk := Words(b)
		all := func() []placed {
			var out []placed
			for at, w := range walk {
				out = append(out, placed{at, w})
			}
			return out
		}
		if got := all(); !slices.Equal(got, want) {
			t.Fatalf("Words(%x): %x; wanted %x", b, got, want)
		}
		for stop := range want {
			var got []placed
			for at, w := range walk {
				got = append(got, placed{at, w})
				if !slices.Equal(all(), want) {
					t.Fatalf("Words(%x), within itself", b)
				}
				if len(got) == stop+1 {
					break
				}
			}
			if !slices.Equal(got, want[:stop+1]) {
				t.Fatalf("Words(%x), left behind %d: %x", b, stop+1, got)
			}
		}
		if !slices.Equal(all(), want) || !bytes.Equal(b[:cap(b)], kept) {
			t.Fatalf("Words(%x), gone over again", b)
		}
	}
}

// P0.1: what there is when going over the words begins is told, though the bytes are written over meanwhile.
func TestWordsWrittenOver(t *testing.T) {
	s := source(31)
	b := s.some(43)
	walk := Words(b)
	for range 2 {
		want := modelWords(b)
		var got []placed
		for at, w := range walk {
			got = append(got, placed{at, w})
			for i := range b {
				b[i] += 0x55
			}
		}
		if !slices.Equal(got, want) {
			t.Errorf("%x; wanted %x", got, want)
		}
	}
}

// P25.2: the Layout of each row, whatever the other fields have; of what is no row, none.
func TestLayout(t *testing.T) {
	want := map[api.Inst]api.Layout{}
	for _, l := range looks {
		for form := range api.Form(4) {
			for other := range uint32(4) {
				w := l.put(l.match, 'f', uint32(form))
				for width, f := range widths {
					if f == form {
						w = l.put(w, 'w', width)
					}
				}
				w = l.put(l.put(l.put(w, 'g', other), 'k', other), 'n', 1)
				if _, x, is := find(w); is {
					want[row(x)] = l.layout
				}
			}
		}
	}
	if len(want) != 136 {
		t.Fatal("rows:", len(want))
	}
	numbers := []uint8{0, 1, 2, 3, 4, 5, 7, 8, 128, 255}
	for o := range 256 {
		for _, f := range numbers {
			for _, from := range numbers {
				for _, k := range numbers {
					x := api.Inst{Op: api.Op(o), Form: api.Form(f), From: api.Form(from), Kind: api.IntKind(k)}
					layout, is := want[x]
					held := laid{l: layout}
					if !is {
						held.e = api.ErrArg
					}
					y := x
					y.Rd, y.Rs1, y.Rs2, y.Rs3, y.Rm, y.Imm, y.Csr = 255, 32, 99, 31, 5, -32768, 4
					if one, other := toLaid(Layout(x)), toLaid(Layout(y)); one != held || other != held {
						t.Fatalf("Layout(%+v): %v, and with other fields %v; wanted %v", x, one, other, held)
					}
				}
			}
		}
	}
}

// P25.3, by hand: one word of each kind, whose registers are rd 5, rs1 6, rs2 7 and rs3 8; and x0, f0, and one register named twice.
func TestUsesByHand(t *testing.T) {
	const rd, rs1, rs2, rs3 = 1 << 5, 1 << 6, 1 << 7, 1 << 8
	for w, want := range map[uint32]api.Use{
		0x00732287: {ReadX: rs1, WriteF: rd},
		0x007322a7: {ReadX: rs1, ReadF: rs2},
		0x407302c3: {ReadF: rs1 | rs2 | rs3, WriteF: rd},
		0x407302c7: {ReadF: rs1 | rs2 | rs3, WriteF: rd},
		0x407302cb: {ReadF: rs1 | rs2 | rs3, WriteF: rd},
		0x407302cf: {ReadF: rs1 | rs2 | rs3, WriteF: rd},
		0x007302d3: {ReadF: rs1 | rs2, WriteF: rd},
		0x087302d3: {ReadF: rs1 | rs2, WriteF: rd},
		0x107302d3: {ReadF: rs1 | rs2, WriteF: rd},
		0x187302d3: {ReadF: rs1 | rs2, WriteF: rd},
		0x580302d3: {ReadF: rs1, WriteF: rd},
		0x207302d3: {ReadF: rs1 | rs2, WriteF: rd},
		0x207312d3: {ReadF: rs1 | rs2, WriteF: rd},
		0x207322d3: {ReadF: rs1 | rs2, WriteF: rd},
		0x287302d3: {ReadF: rs1 | rs2, WriteF: rd},
		0x287312d3: {ReadF: rs1 | rs2, WriteF: rd},
		0x401302d3: {ReadF: rs1, WriteF: rd},
		0xa07322d3: {ReadF: rs1 | rs2, WriteX: rd},
		0xa07312d3: {ReadF: rs1 | rs2, WriteX: rd},
		0xa07302d3: {ReadF: rs1 | rs2, WriteX: rd},
		0xc00302d3: {ReadF: rs1, WriteX: rd},
		0xd00302d3: {ReadX: rs1, WriteF: rd},
		0xe00302d3: {ReadF: rs1, WriteX: rd},
		0xe00312d3: {ReadF: rs1, WriteX: rd},
		0xf00302d3: {ReadX: rs1, WriteF: rd},
		0x001312f3: {ReadX: rs1, WriteX: rd},
		0x001322f3: {ReadX: rs1, WriteX: rd},
		0x001332f3: {ReadX: rs1, WriteX: rd},
		0x001352f3: {WriteX: rd},
		0x001362f3: {WriteX: rd},
		0x001372f3: {WriteX: rd},

		0x00101073: {ReadX: 1, WriteX: 1},
		0x00105073: {WriteX: 1},
		0x00002007: {ReadX: 1, WriteF: 1},
		0xf8000043: {ReadF: 1 | 1<<31, WriteF: 1},
		0x01ff8fd3: {ReadF: 1 << 31, WriteF: 1 << 31},
		0xa1ff8fd3: {ReadF: 1 << 31, WriteX: 1 << 31},
	} {
		if got := toUsed(Uses(w)); got != (used{u: want}) {
			t.Errorf("Uses(%08x): %+v; wanted %+v", w, got, want)
		}
	}
	for _, w := range []uint32{0, 0xffffffff, 0x003150d3, 0x13} {
		if got := toUsed(Uses(w)); got != (used{e: api.ErrIllegal}) {
			t.Errorf("Uses(%08x): %+v", w, got)
		}
	}
}

// P25.3 and P25.5: words of all looks, and others; never more than three f registers that are read, and one register that is written.
func TestUses(t *testing.T) {
	s := source(32)
	for range 200000 {
		w := s.any()
		got := toUsed(Uses(w))
		if want := modelUses(w); got != want {
			t.Fatalf("Uses(%08x): %+v; wanted %+v", w, got, want)
		}
		if bits.OnesCount32(got.u.ReadF) > 3 || bits.OnesCount32(got.u.WriteX)+bits.OnesCount32(got.u.WriteF) > 1 {
			t.Fatalf("Uses(%08x): %+v", w, got)
		}
	}
}

// P25.3, by hand: each Layout's fields; one word that is none, both; another row by each of Op, Form, From and Kind.
func TestSameByHand(t *testing.T) {
	for _, x := range []struct {
		v, w uint32
		want masked
	}{
		{0x00002007, 0xffffaf87, masked{mask: 0xffff8f80}},
		{0x00003027, 0x00003027, masked{mask: 0xffff8f80}},
		{0x00000043, 0xf81f7fc3, masked{mask: 0xf9ffff80}},
		{0x00000053, 0x003100d3, masked{mask: 0x01ffff80}},
		{0x20000053, 0x21ff8fd3, masked{mask: 0x01ff8f80}},
		{0x58000053, 0x580fcfd3, masked{mask: 0x000fff80}},
		{0xe0000053, 0xe00f8fd3, masked{mask: 0x000f8f80}},
		{0x00101073, 0x003f9ff3, masked{mask: 0xffff8f80}},
		{0x00105073, 0x00205073, masked{mask: 0xffff8f80}},

		{0, 0, masked{e: api.ErrIllegal}},
		{0, 0x003100d3, masked{e: api.ErrIllegal}},
		{0x003100d3, 0, masked{e: api.ErrIllegal}},
		{0x003150d3, 0x003150d3, masked{e: api.ErrIllegal}},
		{0x00101073, 0x00401073, masked{e: api.ErrIllegal}},

		{0x003100d3, 0x083100d3, masked{e: api.ErrArg}},
		{0x003100d3, 0x023100d3, masked{e: api.ErrArg}},
		{0x00002007, 0x00003007, masked{e: api.ErrArg}},
		{0x40100053, 0x40200053, masked{e: api.ErrArg}},
		{0xc0000053, 0xc0100053, masked{e: api.ErrArg}},
		{0x00101073, 0x00105073, masked{e: api.ErrArg}},
	} {
		if got := toMasked(Same(x.v, x.w)); got != x.want {
			t.Errorf("Same(%08x, %08x): %+v; wanted %+v", x.v, x.w, got, x.want)
		}
	}
}

// P25.3: words of all looks beside others of the same look, often of the same row, and beside words at large; two of one row differ by those bits alone.
func TestSame(t *testing.T) {
	s := source(33)
	counts := map[api.Errno]int{}
	for range 200000 {
		l := looks[s.next()%uint64(len(looks))]
		v, w := s.legal(l), s.legal(l)
		switch s.next() % 8 {
		case 0:
			v = s.any()
		case 1:
			w = s.any()
		case 2:
			w = v ^ 1<<(s.next()%32)
		}
		got := toMasked(Same(v, w))
		if want := modelSame(v, w); got != want {
			t.Fatalf("Same(%08x, %08x): %+v; wanted %+v", v, w, got, want)
		}
		if got.e == api.OK && (v^w)&^got.mask != 0 {
			t.Fatalf("Same(%08x, %08x): %+v", v, w, got)
		}
		counts[got.e]++
	}
	if len(counts) != 3 || min(counts[api.OK], counts[api.ErrArg], counts[api.ErrIllegal]) < 1000 {
		t.Error("too few of some kind:", counts)
	}
}
