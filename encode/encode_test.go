package encode

import (
	"slices"
	"testing"

	"abacus/api"
	"abacus/decode"
)

// The chapter's examples.
func TestExamples(t *testing.T) {
	add := api.Inst{Op: api.Add, Form: api.Single, Rd: 1, Rs1: 2, Rs2: 3}
	for x, want := range map[api.Inst]told{
		add: {w: 0x003100d3},
		{Op: api.Store, Form: api.Single, Rs1: 2, Rs2: 1, Imm: -4}:    {w: 0xfe112e27},
		{Op: api.Store, Form: api.Single, Rs1: 2, Rs2: 1, Imm: 2048}:  {e: api.ErrInst},
		{Op: api.Add, Form: api.Single, Rd: 1, Rs1: 2, Rs2: 3, Rm: 5}: {e: api.ErrInst},
		{Op: api.Sqrt, Rs2: 1}:                  {e: api.ErrInst},
		{Op: api.ToWord, Form: api.Quad, Rd: 1}: {e: api.ErrInst},
		{Op: api.CsrSwap, Csr: 4}:               {e: api.ErrInst},
	} {
		if got := toTold(Encode(x)); got != want {
			t.Errorf("Encode(%+v): %v; wanted %v", x, got, want)
		}
	}
	if b, at, e := Bytes(add); !slices.Equal(b, []byte{0xd3, 0, 0x31, 0}) || at != 1 || e != api.OK {
		t.Errorf("Bytes: %x, %d, %v", b, at, e)
	}
	for _, x := range []struct {
		w    uint32
		x    api.Inst
		want told
	}{
		{0x003100d3, api.Inst{Op: api.Add, Form: api.Single}, told{w: 0x53}},
		{0x003100d3, api.Inst{Op: api.Add, Form: api.Double}, told{e: api.ErrInst}},
		{0, api.Inst{Op: api.Add, Form: api.Single}, told{e: api.ErrIllegal}},
	} {
		if got := toTold(With(x.w, x.x)); got != x.want {
			t.Errorf("With(%08x, %+v): %v; wanted %v", x.w, x.x, got, x.want)
		}
	}
}

// byHand are instructions with their words, as manuals have them: one for each Op at least, and the edges of imm.
var byHand = []struct {
	x api.Inst
	w uint32
}{
	{api.Inst{Op: api.Load}, 0x00002007},
	{api.Inst{Op: api.Load, Form: api.Double, Rd: 31, Rs1: 10, Imm: 2047}, 0x7ff53f87},
	{api.Inst{Op: api.Load, Form: api.Half, Rd: 31, Rs1: 10, Imm: -2048}, 0x80051f87},
	{api.Inst{Op: api.Load, Form: api.Quad, Rd: 31, Rs1: 31, Imm: -1}, 0xffffcf87},
	{api.Inst{Op: api.Load, Imm: 32}, 0x02002007},
	{api.Inst{Op: api.Store}, 0x00002027},
	{api.Inst{Op: api.Store, Form: api.Double, Rs1: 10, Rs2: 11, Imm: 2047}, 0x7eb53fa7},
	{api.Inst{Op: api.Store, Form: api.Half, Rs1: 10, Rs2: 11, Imm: -2048}, 0x80b51027},
	{api.Inst{Op: api.Store, Form: api.Quad, Rs1: 31, Rs2: 31, Imm: -1}, 0xffffcfa7},
	{api.Inst{Op: api.Store, Imm: 31}, 0x00002fa7},
	{api.Inst{Op: api.Store, Imm: 32}, 0x02002027},
	{api.Inst{Op: api.Store, Imm: -2017}, 0x80002fa7},
	{api.Inst{Op: api.MulAdd, Form: api.Double, Rd: 10, Rs1: 11, Rs2: 12, Rs3: 4, Rm: 7}, 0x22c5f543},
	{api.Inst{Op: api.MulSub, Rs3: 31}, 0xf8000047},
	{api.Inst{Op: api.NegMulSub, Form: api.Half, Rd: 4, Rs1: 1, Rs2: 6, Rs3: 5, Rm: 4}, 0x2c60c24b},
	{api.Inst{Op: api.NegMulAdd, Form: api.Quad, Rd: 4, Rs1: 1, Rs2: 6, Rs3: 5, Rm: 2}, 0x2e60a24f},
	{api.Inst{Op: api.Add, Rd: 13, Rs1: 10, Rs2: 11, Rm: 7}, 0x00b576d3},
	{api.Inst{Op: api.Sub, Form: api.Double, Rd: 5, Rs1: 6, Rs2: 7, Rm: 7}, 0x0a7372d3},
	{api.Inst{Op: api.Mul, Form: api.Half, Rd: 5, Rs1: 6, Rs2: 7, Rm: 1}, 0x147312d3},
	{api.Inst{Op: api.Div, Form: api.Quad, Rd: 5, Rs1: 6, Rs2: 7, Rm: 2}, 0x1e7322d3},
	{api.Inst{Op: api.Sqrt, Form: api.Double, Rd: 5, Rs1: 6, Rm: 3}, 0x5a0332d3},
	{api.Inst{Op: api.SignCopy, Rd: 5, Rs1: 6, Rs2: 7}, 0x207302d3},
	{api.Inst{Op: api.SignNot, Form: api.Double, Rd: 5, Rs1: 6, Rs2: 7}, 0x227312d3},
	{api.Inst{Op: api.SignXor, Form: api.Half, Rd: 5, Rs1: 6, Rs2: 7}, 0x247322d3},
	{api.Inst{Op: api.Min, Rd: 5, Rs1: 6, Rs2: 7}, 0x287302d3},
	{api.Inst{Op: api.Max, Form: api.Quad, Rd: 5, Rs1: 6, Rs2: 7}, 0x2e7312d3},
	{api.Inst{Op: api.Convert, From: api.Double, Rd: 5, Rs1: 6, Rm: 7}, 0x401372d3},
	{api.Inst{Op: api.Convert, Form: api.Double, Rd: 5, Rs1: 6}, 0x420302d3},
	{api.Inst{Op: api.Convert, Form: api.Quad, From: api.Half, Rd: 5, Rs1: 6, Rm: 4}, 0x462342d3},
	{api.Inst{Op: api.Eq, Rd: 5, Rs1: 6, Rs2: 7}, 0xa07322d3},
	{api.Inst{Op: api.Lt, Form: api.Double, Rd: 5, Rs1: 6, Rs2: 7}, 0xa27312d3},
	{api.Inst{Op: api.Le, Form: api.Half, Rd: 5, Rs1: 6, Rs2: 7}, 0xa47302d3},
	{api.Inst{Op: api.ToInt, Rd: 5, Rs1: 6, Rm: 1}, 0xc00312d3},
	{api.Inst{Op: api.ToInt, Form: api.Double, Kind: api.LU, Rd: 5, Rs1: 6, Rm: 7}, 0xc23372d3},
	{api.Inst{Op: api.FromInt, Kind: api.WU, Rd: 5, Rs1: 6, Rm: 7}, 0xd01372d3},
	{api.Inst{Op: api.FromInt, Form: api.Quad, Kind: api.L, Rd: 5, Rs1: 6}, 0xd62302d3},
	{api.Inst{Op: api.ToWord, Rd: 5, Rs1: 6}, 0xe00302d3},
	{api.Inst{Op: api.ToWord, Form: api.Half, Rd: 5, Rs1: 6}, 0xe40302d3},
	{api.Inst{Op: api.Classify, Form: api.Quad, Rd: 5, Rs1: 6}, 0xe60312d3},
	{api.Inst{Op: api.OfWord, Form: api.Double, Rd: 5, Rs1: 6}, 0xf20302d3},
	{api.Inst{Op: api.CsrSwap, Rd: 1, Rs1: 2, Csr: 1}, 0x001110f3},
	{api.Inst{Op: api.CsrSet, Rs1: 1, Csr: 2}, 0x0020a073},
	{api.Inst{Op: api.CsrClear, Rd: 31, Rs1: 1, Csr: 3}, 0x0030bff3},
	{api.Inst{Op: api.CsrSwapI, Rs1: 31, Csr: 1}, 0x001fd073},
	{api.Inst{Op: api.CsrSetI, Rd: 31, Csr: 2}, 0x00206ff3},
	{api.Inst{Op: api.CsrClearI, Rd: 1, Rs1: 16, Csr: 3}, 0x003870f3},
}

// P26.1, by hand: each Op's instructions, and their words.
func TestEncodeByHand(t *testing.T) {
	seen := map[api.Op]bool{}
	for _, x := range byHand {
		if got := toTold(Encode(x.x)); got != (told{w: x.w}) || !May(x.x) {
			t.Errorf("Encode(%+v): %v, May %v; wanted %v", x.x, got, May(x.x), x.w)
		}
		seen[x.x.Op] = true
	}
	if len(seen) != int(api.CsrClearI) {
		t.Error("Ops by hand:", len(seen))
	}
}

// P26.1, by hand: instructions that may not be.
func TestMayNotByHand(t *testing.T) {
	for _, x := range []api.Inst{
		{}, {Rd: 1}, {Op: 32}, {Op: 255}, // no Op
		{Op: api.Add, Form: 4}, {Op: api.Add, Form: 255}, {Op: api.Load, Form: 4}, // no Form
		{Op: api.CsrSwap, Form: api.Double, Csr: 1}, {Op: api.ToWord, Form: api.Quad}, {Op: api.OfWord, Form: api.Quad},
		{Op: api.Convert}, {Op: api.Convert, Form: api.Quad, From: api.Quad}, {Op: api.Convert, From: 4}, // no From
		{Op: api.Add, From: api.Double}, {Op: api.ToInt, From: api.Double}, {Op: api.Load, From: api.Double},
		{Op: api.ToInt, Kind: 4}, {Op: api.FromInt, Kind: 255}, {Op: api.Add, Kind: api.WU}, {Op: api.Convert, From: api.Double, Kind: api.WU}, // no Kind
		{Op: api.MulAdd, Rd: 32}, {Op: api.MulAdd, Rs1: 32}, {Op: api.MulAdd, Rs2: 32}, {Op: api.MulAdd, Rs3: 32}, // no registers
		{Op: api.MulAdd, Rd: 255}, {Op: api.MulAdd, Rs1: 128}, {Op: api.MulAdd, Rs2: 64}, {Op: api.MulAdd, Rs3: 255},
		{Op: api.CsrSwapI, Rs1: 32, Csr: 1}, {Op: api.Load, Rd: 32}, {Op: api.Store, Rs2: 32}, {Op: api.Classify, Rd: 32},
		{Op: api.Add, Rm: 5}, {Op: api.MulAdd, Rm: 6}, {Op: api.Sqrt, Rm: 8}, {Op: api.ToInt, Rm: 12}, {Op: api.Add, Rm: 255}, // no modes
		{Op: api.Load, Imm: 2048}, {Op: api.Load, Imm: -2049}, {Op: api.Store, Imm: 2048}, {Op: api.Store, Imm: -2049}, // beyond imm
		{Op: api.Load, Imm: 4096}, {Op: api.Load, Imm: 32767}, {Op: api.Store, Imm: -32768}, {Op: api.Store, Imm: 4095},
		{Op: api.CsrSwap}, {Op: api.CsrSet, Csr: 4}, {Op: api.CsrClearI}, {Op: api.CsrSetI, Csr: 255}, // no control registers
		{Op: api.Load, Rs2: 1}, {Op: api.Load, Rs3: 1}, {Op: api.Load, Rm: 2}, {Op: api.Load, Csr: 1}, // what the Layout has not
		{Op: api.Store, Rd: 1}, {Op: api.Store, Rs3: 1}, {Op: api.Store, Rm: 2}, {Op: api.Store, Csr: 1},
		{Op: api.MulAdd, Imm: 1}, {Op: api.MulAdd, Csr: 1},
		{Op: api.Add, Rs3: 1}, {Op: api.Add, Imm: -1}, {Op: api.Add, Csr: 1},
		{Op: api.SignCopy, Rm: 1}, {Op: api.SignNot, Rm: 1}, {Op: api.Min, Rs3: 5}, {Op: api.Eq, Imm: 1}, {Op: api.Le, Csr: 1},
		{Op: api.Sqrt, Rs2: 1}, {Op: api.Sqrt, Rs3: 1}, {Op: api.Convert, From: api.Double, Rs2: 1}, {Op: api.ToInt, Imm: 1}, {Op: api.FromInt, Csr: 1},
		{Op: api.ToWord, Rm: 7}, {Op: api.Classify, Rm: 1}, {Op: api.OfWord, Rs2: 1}, {Op: api.OfWord, Rs3: 1}, {Op: api.ToWord, Imm: 1}, {Op: api.ToWord, Csr: 1},
		{Op: api.CsrSwap, Csr: 1, Rs2: 1}, {Op: api.CsrSwap, Csr: 1, Rs3: 1}, {Op: api.CsrSwap, Csr: 1, Rm: 1}, {Op: api.CsrSwap, Csr: 1, Imm: 1},
		{Op: api.CsrSwapI, Csr: 1, Rs2: 1}, {Op: api.CsrSwapI, Csr: 1, Rs3: 1}, {Op: api.CsrSwapI, Csr: 1, Rm: 5}, {Op: api.CsrSwapI, Csr: 1, Imm: 1},
	} {
		if got := toTold(Encode(x)); got != (told{e: api.ErrInst}) || May(x) {
			t.Errorf("Encode(%+v): %v, May %v; wanted none", x, got, May(x))
		}
	}
}

// holds holds x's Encode and May against the model and, if x may be, decode's answer against x.
func holds(t *testing.T, x api.Inst) (is bool) {
	t.Helper()
	want := modelEncode(x)
	got := toTold(Encode(x))
	is = want.e == api.OK
	if got != want || May(x) != is {
		t.Fatalf("Encode(%+v): %v, May %v; wanted %v", x, got, May(x), want)
	}
	if y, e := decode.Decode(got.w); is && (y != x || e != api.OK) {
		t.Fatalf("%+v is %08x, which is %+v, %v", x, got.w, y, e)
	}
	return is
}

// P26.1: all Ops with formats, kinds, and control registers that are and that are none.
func TestRows(t *testing.T) {
	numbers := []uint8{0, 1, 2, 3, 4, 5, 7, 8, 16, 128, 255}
	count := 0
	for o := range 256 {
		for _, f := range numbers {
			for _, from := range numbers {
				for _, k := range numbers {
					for csr := range uint8(2) {
						if holds(t, api.Inst{Op: api.Op(o), Form: api.Form(f), From: api.Form(from), Kind: api.IntKind(k), Csr: csr}) {
							count++
						}
					}
				}
			}
		}
	}
	if count != 136 || len(allRows) != 136 {
		t.Error("rows:", count, len(allRows))
	}
}

// P26.1 and P26.4: in each row each field with each number that its type has, the others being the least and others that may be.
func TestFields(t *testing.T) {
	s := source(26)
	for _, first := range allRows {
		for _, x := range []api.Inst{first, s.like(first)} {
			for _, field := range fields(&x) {
				kept := *field
				for n := range 256 {
					*field = uint8(n)
					holds(t, x)
				}
				*field = kept
			}
		}
	}
}

// P26.1 and P26.4: in each Op each imm that its type has.
func TestImms(t *testing.T) {
	s := source(34)
	last := api.NoOp
	for _, first := range allRows {
		if first.Op == last {
			continue
		}
		last = first.Op
		x := s.like(first)
		for n := range 1 << 16 {
			x.Imm = int16(uint16(n))
			if holds(t, x) && x.Imm != 0 && x.Op != api.Load && x.Op != api.Store {
				t.Fatalf("%+v has an imm", x)
			}
		}
	}
}

// P26.1 and P26.4: instructions that may be, and such with one and two places that were turned.
func TestEncode(t *testing.T) {
	s := source(27)
	counts := map[bool]int{}
	for range 300000 {
		counts[holds(t, s.any())]++
	}
	if counts[true] < 50000 || counts[false] < 50000 {
		t.Error("too few of some kind:", counts)
	}
}

// P26.4 and P0.5: all words that are instructions, but that the registers rd and rs1 of each are some: encoded again these are the words.
func TestThereAndBack(t *testing.T) {
	s := source(28)
	counts := map[api.Op]int{}
	for low := range uint32(1 << 10) {
		for high := range uint32(1 << 12) {
			w := high<<20 | low>>7<<12 | low&127 | uint32(s.next())&0x000f8f80
			x, e := decode.Decode(w)
			if e != api.OK {
				continue
			}
			counts[x.Op]++
			if got := toTold(Encode(x)); got != (told{w: w}) {
				t.Fatalf("%08x is %+v, which is %v", w, x, got)
			}
		}
	}
	if len(counts) != len(looks) {
		t.Error("Ops that were met:", len(counts))
	}
}

// P26.5: of many instructions that may be no two have one word.
func TestUnlike(t *testing.T) {
	s := source(29)
	seen := map[uint32]api.Inst{}
	for i := range 40000 {
		x := s.good()
		if i < len(allRows) {
			x = allRows[i]
		}
		w, e := Encode(x)
		if y, is := seen[w]; e != api.OK || is && x != y {
			t.Fatalf("%+v and %+v are %08x, %v", x, y, w, e)
		}
		seen[w] = x
	}
}

// P26.5: by a field that is turned, only bits of that field are turned, and at least one.
func TestTurned(t *testing.T) {
	s := source(30)
	letters := []string{"", "fvw", "g", "k", "d", "au", "b", "c", "m", "n", "i"} // of what fields tells (of Op none), and of imm
	counts := map[string]int{}
	for range 200000 {
		x := s.good()
		at := 1 + s.below(len(letters)-1)
		y := x
		if at == len(letters)-1 {
			y.Imm = int16(s.below(4096) - 2048)
		} else {
			*fields(&y)[at] = uint8(s.below(32))
		}
		v, d := Encode(x)
		w, e := Encode(y)
		if d != api.OK {
			t.Fatalf("Encode(%+v): %v", x, d)
		}
		if e != api.OK || x == y {
			continue
		}
		if mask := taken(x.Op, letters[at]); v == w || (v^w)&^mask != 0 {
			t.Fatalf("%+v is %08x, and %+v is %08x", x, v, y, w)
		}
		counts[letters[at]]++
	}
	if len(counts) != len(letters)-1 {
		t.Error("fields that were turned:", counts)
	}
}

// P0.1: what an instruction's word is hangs on it alone, whatever was asked ahead.
func TestEncodeAgain(t *testing.T) {
	s := source(31)
	l := make([]api.Inst, 2000)
	first := make([]told, len(l))
	for i := range l {
		l[i] = s.any()
		first[i] = toTold(Encode(l[i]))
	}
	for i := len(l) - 1; i >= 0; i-- {
		if got := toTold(Encode(l[i])); got != first[i] {
			t.Fatalf("Encode(%+v): %v, and ahead %v", l[i], got, first[i])
		}
	}
}

// P26.2, by hand: fields turned in each Layout; another row by each of Op, Form, From and Kind; which error comes first.
func TestWithByHand(t *testing.T) {
	for _, x := range []struct {
		w    uint32
		x    api.Inst
		want told
	}{
		{0x00002007, api.Inst{Op: api.Load, Rd: 31, Rs1: 31, Imm: -1}, told{w: 0xffffaf87}},
		{0xffffcfa7, api.Inst{Op: api.Store, Form: api.Quad}, told{w: 0x00004027}},
		{0x20000043, api.Inst{Op: api.MulAdd, Rm: 7}, told{w: 0x00007043}},
		{0x003170d3, api.Inst{Op: api.Add, Rd: 1, Rs1: 2, Rs2: 3}, told{w: 0x003100d3}},
		{0x20000053, api.Inst{Op: api.SignCopy, Rs2: 1}, told{w: 0x20100053}},
		{0x58000053, api.Inst{Op: api.Sqrt, Rs1: 1}, told{w: 0x58008053}},
		{0xe0001053, api.Inst{Op: api.Classify, Rd: 1}, told{w: 0xe00010d3}},
		{0x00101073, api.Inst{Op: api.CsrSwap, Csr: 3}, told{w: 0x00301073}},
		{0x00105073, api.Inst{Op: api.CsrSwapI, Rs1: 31, Csr: 1}, told{w: 0x001fd073}},

		{0x00000053, api.Inst{Op: api.Sub}, told{e: api.ErrInst}},
		{0x00000053, api.Inst{Op: api.Add, Form: api.Quad}, told{e: api.ErrInst}},
		{0x00002007, api.Inst{Op: api.Load, Form: api.Double}, told{e: api.ErrInst}},
		{0x00002007, api.Inst{Op: api.Store}, told{e: api.ErrInst}},
		{0x40100053, api.Inst{Op: api.Convert, From: api.Half}, told{e: api.ErrInst}},
		{0xc0000053, api.Inst{Op: api.ToInt, Kind: api.L}, told{e: api.ErrInst}},
		{0x00101073, api.Inst{Op: api.CsrSwapI, Csr: 1}, told{e: api.ErrInst}},
		{0xe0000053, api.Inst{Op: api.Classify}, told{e: api.ErrInst}},

		{0x00000053, api.Inst{}, told{e: api.ErrInst}},
		{0x00000053, api.Inst{Op: api.Add, Rm: 5}, told{e: api.ErrInst}},
		{0x00000053, api.Inst{Op: api.Add, Rd: 32}, told{e: api.ErrInst}},
		{0x00101073, api.Inst{Op: api.CsrSwap}, told{e: api.ErrInst}},
		{0x00101073, api.Inst{Op: api.CsrSwap, Csr: 4}, told{e: api.ErrInst}},

		{0x00005053, api.Inst{Op: api.Add}, told{e: api.ErrIllegal}},
		{0x00401073, api.Inst{Op: api.CsrSwap, Csr: 1}, told{e: api.ErrIllegal}},
		{0, api.Inst{}, told{e: api.ErrIllegal}},
		{0xffffffff, api.Inst{Op: api.Add, Rm: 5}, told{e: api.ErrIllegal}},
	} {
		if got := toTold(With(x.w, x.x)); got != x.want {
			t.Errorf("With(%08x, %+v): %v; wanted %v", x.w, x.x, got, x.want)
		}
	}
}

// modelWith is what With answers.
func modelWith(w uint32, x api.Inst) told {
	v, e := decode.Decode(w)
	if e != api.OK {
		return told{e: api.ErrIllegal}
	}
	if row(v) != row(x) {
		return told{e: api.ErrInst}
	}
	return modelEncode(x)
}

// P26.2: words of all rows, some with a bit turned, with instructions of the same row, of others, and that may not be.
func TestWith(t *testing.T) {
	s := source(32)
	counts := map[api.Errno]int{}
	for range 200000 {
		v := s.good()
		w := modelEncode(v).w
		x := s.like(v)
		switch s.below(8) {
		case 0:
			w ^= 1 << s.below(32)
		case 1:
			w = uint32(s.next() >> 9)
		case 2:
			x = s.any()
		case 3:
			x = s.turned(x)
		}
		got := toTold(With(w, x))
		if want := modelWith(w, x); got != want {
			t.Fatalf("With(%08x, %+v): %v; wanted %v", w, x, got, want)
		}
		counts[got.e]++
	}
	if len(counts) != 3 || min(counts[api.OK], counts[api.ErrInst], counts[api.ErrIllegal]) < 10000 {
		t.Error("too few of some kind:", counts)
	}
}

// P26.2: each row's word with the least instruction of each row.
func TestWithRows(t *testing.T) {
	for _, x := range allRows {
		for _, y := range allRows {
			want := told{e: api.ErrInst}
			if x == y {
				want = modelEncode(y)
			}
			if got := toTold(With(modelEncode(x).w, y)); got != want {
				t.Fatalf("With the word of %+v, %+v: %v; wanted %v", x, y, got, want)
			}
		}
	}
}
