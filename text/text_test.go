package text

import (
	"slices"
	"strings"
	"testing"

	"abacus/api"
	"abacus/csr"
	"abacus/decode"
	"abacus/encode"
	"abacus/table"
)

// The chapter's examples.
func TestExamples(t *testing.T) {
	if got := toSaid(Text(api.Inst{Op: api.Add, Form: api.Single, Rd: 1, Rs1: 2, Rs2: 3, Rm: 7})); got != (said{s: "fadd.s f1, f2, f3, dyn"}) {
		t.Error("Text:", got)
	}
	for w, want := range map[uint32]string{
		0xfe112e27: "fsw f1, -4(x2)",
		0x0021d0f3: "csrrwi x1, frm, 3",
		0x203170c3: "fmadd.s f1, f2, f3, f4, dyn",
		0:          ".word 00000000",
	} {
		if got := Word(w); got != want {
			t.Errorf("Word(%08x): %q; wanted %q", w, got, want)
		}
	}
	for s, want := range map[string]inst{
		"feq.d x1, f2, f3":      {x: api.Inst{Op: api.Eq, Form: api.Double, Rd: 1, Rs1: 2, Rs2: 3}},
		"fmv.x.w x1, f2":        {x: api.Inst{Op: api.ToWord, Form: api.Single, Rd: 1, Rs1: 2}},
		"fcvt.h.lu f1, x2, rtz": {x: api.Inst{Op: api.FromInt, Form: api.Half, Kind: api.LU, Rd: 1, Rs1: 2, Rm: 1}},
		"fadd.s f1,f2,f3,dyn":   noLine,
		"fadd.s f1, f2, f3":     noLine,
		"flw f1, -0(x2)":        noLine,
		"feq.d f1, f2, f3":      noLine,
	} {
		if got := toInst(Read(s)); got != want {
			t.Errorf("Read(%q): %v; wanted %v", s, got, want)
		}
	}
	l, e := List([]byte{0x53, 0, 0, 0, 1})
	if !slices.Equal(l, []string{"000000 fadd.s f0, f0, f0, rne", "000004 .byte 01"}) || e != api.OK {
		t.Error("List:", l, e)
	}
	if got := toBytes(ReadList("000000 .byte 01", "000001 .byte 02")); got != (bytesRead{b: "\x01\x02", at: 2}) {
		t.Error("ReadList:", got)
	}
	if got := toBytes(ReadList("000000 .byte 01", "000004 .byte 02")); got != (bytesRead{at: 1, e: api.ErrLine}) {
		t.Error("ReadList:", got)
	}
	if got := toCoded(ReadWord(".word 00000053")); got != (coded{e: api.ErrLine}) {
		t.Error("ReadWord:", got)
	}
}

// P27.1, by hand: the six modes, and all other numbers.
func TestMode(t *testing.T) {
	words := map[uint8]string{0: "rne", 1: "rtz", 2: "rdn", 3: "rup", 4: "rmm", 7: "dyn"}
	for rm := range 256 {
		want := said{e: api.ErrArg}
		if word, is := words[uint8(rm)]; is {
			want = said{s: word}
		}
		if got := toSaid(Mode(uint8(rm))); got != want {
			t.Errorf("Mode(%d): %v; wanted %v", rm, got, want)
		}
	}
	for rm, word := range words {
		if got := toModed(ReadMode(word)); got != (moded{rm: rm}) {
			t.Errorf("ReadMode(%q): %v", word, got)
		}
	}
}

// P27.1: texts that are no mode's, by hand.
func TestNoMode(t *testing.T) {
	for _, s := range []string{"", " ", "r", "rn", "rnee", "rne ", " rne", "RNE", "Dyn", "dy", "dyna", "0", "7", "rne, rtz", "rne\x00", "rod", "\xff", strings.Repeat("rne", 100000)} {
		if got := toModed(ReadMode(s)); got != (moded{e: api.ErrLine}) {
			t.Errorf("ReadMode(%q): %v", s[:min(len(s), 20)], got)
		}
	}
}

// P27.1 and P27.5: of all texts of up to four of the letters that the words have, just six are modes', and each of these is its mode's word.
func TestShortModes(t *testing.T) {
	count := 0
	var try func(s string)
	try = func(s string) {
		if rm, e := ReadMode(s); e == api.OK {
			count++
			if got := toSaid(Mode(rm)); got != (said{s: s}) {
				t.Errorf("ReadMode(%q) is %d, which is %v", s, rm, got)
			}
		} else if rm != 0 || e != api.ErrLine {
			t.Errorf("ReadMode(%q): %d, %v", s, rm, e)
		}
		if len(s) == 4 {
			return
		}
		for _, c := range "dempnrtuyz" {
			try(s + string(c))
		}
	}
	try("")
	if count != 6 {
		t.Error("modes:", count)
	}
}

// byHand are texts with their instructions and words: one for each Op at least, and the edges of what operands may be.
var byHand = []struct {
	s string
	x api.Inst
	w uint32
}{
	{"flw f0, 0(x0)", api.Inst{Op: api.Load}, 0x00002007},
	{"fld f31, 2047(x10)", api.Inst{Op: api.Load, Form: api.Double, Rd: 31, Rs1: 10, Imm: 2047}, 0x7ff53f87},
	{"flh f31, -2048(x10)", api.Inst{Op: api.Load, Form: api.Half, Rd: 31, Rs1: 10, Imm: -2048}, 0x80051f87},
	{"flq f31, -1(x31)", api.Inst{Op: api.Load, Form: api.Quad, Rd: 31, Rs1: 31, Imm: -1}, 0xffffcf87},
	{"flw f0, 32(x0)", api.Inst{Op: api.Load, Imm: 32}, 0x02002007},
	{"fsw f0, 0(x0)", api.Inst{Op: api.Store}, 0x00002027},
	{"fsd f11, 2047(x10)", api.Inst{Op: api.Store, Form: api.Double, Rs1: 10, Rs2: 11, Imm: 2047}, 0x7eb53fa7},
	{"fsh f11, -2048(x10)", api.Inst{Op: api.Store, Form: api.Half, Rs1: 10, Rs2: 11, Imm: -2048}, 0x80b51027},
	{"fsq f31, -1(x31)", api.Inst{Op: api.Store, Form: api.Quad, Rs1: 31, Rs2: 31, Imm: -1}, 0xffffcfa7},
	{"fmadd.d f10, f11, f12, f4, dyn", api.Inst{Op: api.MulAdd, Form: api.Double, Rd: 10, Rs1: 11, Rs2: 12, Rs3: 4, Rm: 7}, 0x22c5f543},
	{"fmsub.s f0, f0, f0, f31, rne", api.Inst{Op: api.MulSub, Rs3: 31}, 0xf8000047},
	{"fnmsub.h f4, f1, f6, f5, rmm", api.Inst{Op: api.NegMulSub, Form: api.Half, Rd: 4, Rs1: 1, Rs2: 6, Rs3: 5, Rm: 4}, 0x2c60c24b},
	{"fnmadd.q f4, f1, f6, f5, rdn", api.Inst{Op: api.NegMulAdd, Form: api.Quad, Rd: 4, Rs1: 1, Rs2: 6, Rs3: 5, Rm: 2}, 0x2e60a24f},
	{"fadd.s f13, f10, f11, dyn", api.Inst{Op: api.Add, Rd: 13, Rs1: 10, Rs2: 11, Rm: 7}, 0x00b576d3},
	{"fsub.d f5, f6, f7, dyn", api.Inst{Op: api.Sub, Form: api.Double, Rd: 5, Rs1: 6, Rs2: 7, Rm: 7}, 0x0a7372d3},
	{"fmul.h f5, f6, f7, rtz", api.Inst{Op: api.Mul, Form: api.Half, Rd: 5, Rs1: 6, Rs2: 7, Rm: 1}, 0x147312d3},
	{"fdiv.q f5, f6, f7, rdn", api.Inst{Op: api.Div, Form: api.Quad, Rd: 5, Rs1: 6, Rs2: 7, Rm: 2}, 0x1e7322d3},
	{"fsqrt.d f5, f6, rup", api.Inst{Op: api.Sqrt, Form: api.Double, Rd: 5, Rs1: 6, Rm: 3}, 0x5a0332d3},
	{"fsgnj.s f5, f6, f7", api.Inst{Op: api.SignCopy, Rd: 5, Rs1: 6, Rs2: 7}, 0x207302d3},
	{"fsgnjn.d f5, f6, f7", api.Inst{Op: api.SignNot, Form: api.Double, Rd: 5, Rs1: 6, Rs2: 7}, 0x227312d3},
	{"fsgnjx.h f5, f6, f7", api.Inst{Op: api.SignXor, Form: api.Half, Rd: 5, Rs1: 6, Rs2: 7}, 0x247322d3},
	{"fmin.s f5, f6, f7", api.Inst{Op: api.Min, Rd: 5, Rs1: 6, Rs2: 7}, 0x287302d3},
	{"fmax.q f5, f6, f7", api.Inst{Op: api.Max, Form: api.Quad, Rd: 5, Rs1: 6, Rs2: 7}, 0x2e7312d3},
	{"fcvt.s.d f5, f6, dyn", api.Inst{Op: api.Convert, From: api.Double, Rd: 5, Rs1: 6, Rm: 7}, 0x401372d3},
	{"fcvt.d.s f5, f6, rne", api.Inst{Op: api.Convert, Form: api.Double, Rd: 5, Rs1: 6}, 0x420302d3},
	{"fcvt.q.h f5, f6, rmm", api.Inst{Op: api.Convert, Form: api.Quad, From: api.Half, Rd: 5, Rs1: 6, Rm: 4}, 0x462342d3},
	{"feq.s x5, f6, f7", api.Inst{Op: api.Eq, Rd: 5, Rs1: 6, Rs2: 7}, 0xa07322d3},
	{"flt.d x5, f6, f7", api.Inst{Op: api.Lt, Form: api.Double, Rd: 5, Rs1: 6, Rs2: 7}, 0xa27312d3},
	{"fle.h x5, f6, f7", api.Inst{Op: api.Le, Form: api.Half, Rd: 5, Rs1: 6, Rs2: 7}, 0xa47302d3},
	{"fcvt.w.s x5, f6, rtz", api.Inst{Op: api.ToInt, Rd: 5, Rs1: 6, Rm: 1}, 0xc00312d3},
	{"fcvt.lu.d x5, f6, dyn", api.Inst{Op: api.ToInt, Form: api.Double, Kind: api.LU, Rd: 5, Rs1: 6, Rm: 7}, 0xc23372d3},
	{"fcvt.s.wu f5, x6, dyn", api.Inst{Op: api.FromInt, Kind: api.WU, Rd: 5, Rs1: 6, Rm: 7}, 0xd01372d3},
	{"fcvt.q.l f5, x6, rne", api.Inst{Op: api.FromInt, Form: api.Quad, Kind: api.L, Rd: 5, Rs1: 6}, 0xd62302d3},
	{"fmv.x.w x5, f6", api.Inst{Op: api.ToWord, Rd: 5, Rs1: 6}, 0xe00302d3},
	{"fmv.x.h x5, f6", api.Inst{Op: api.ToWord, Form: api.Half, Rd: 5, Rs1: 6}, 0xe40302d3},
	{"fclass.q x5, f6", api.Inst{Op: api.Classify, Form: api.Quad, Rd: 5, Rs1: 6}, 0xe60312d3},
	{"fmv.d.x f5, x6", api.Inst{Op: api.OfWord, Form: api.Double, Rd: 5, Rs1: 6}, 0xf20302d3},
	{"csrrw x1, fflags, x2", api.Inst{Op: api.CsrSwap, Rd: 1, Rs1: 2, Csr: 1}, 0x001110f3},
	{"csrrs x0, frm, x1", api.Inst{Op: api.CsrSet, Rs1: 1, Csr: 2}, 0x0020a073},
	{"csrrc x31, fcsr, x1", api.Inst{Op: api.CsrClear, Rd: 31, Rs1: 1, Csr: 3}, 0x0030bff3},
	{"csrrwi x0, fflags, 31", api.Inst{Op: api.CsrSwapI, Rs1: 31, Csr: 1}, 0x001fd073},
	{"csrrsi x31, frm, 0", api.Inst{Op: api.CsrSetI, Rd: 31, Csr: 2}, 0x00206ff3},
	{"csrrci x1, fcsr, 16", api.Inst{Op: api.CsrClearI, Rd: 1, Rs1: 16, Csr: 3}, 0x003870f3},
}

// P27.2 and P27.3, by hand: each Op's instructions and words, as text and back.
func TestByHand(t *testing.T) {
	seen := map[api.Op]bool{}
	for _, x := range byHand {
		if got := toSaid(Text(x.x)); got != (said{s: x.s}) {
			t.Errorf("Text(%+v): %v; wanted %q", x.x, got, x.s)
		}
		if got := toInst(Read(x.s)); got != (inst{x: x.x}) {
			t.Errorf("Read(%q): %v; wanted %+v", x.s, got, x.x)
		}
		if got := Word(x.w); got != x.s {
			t.Errorf("Word(%08x): %q; wanted %q", x.w, got, x.s)
		}
		if got := toCoded(ReadWord(x.s)); got != (coded{w: x.w}) {
			t.Errorf("ReadWord(%q): %v; wanted %08x", x.s, got, x.w)
		}
		seen[x.x.Op] = true
	}
	if len(seen) != int(api.CsrClearI) {
		t.Error("Ops by hand:", len(seen))
	}
}

// P27.2, by hand: instructions that may not be.
func TestMayNotByHand(t *testing.T) {
	for _, x := range []api.Inst{
		{}, {Rd: 1}, {Op: 32}, {Op: 255},
		{Op: api.Add, Form: 4}, {Op: api.Load, Form: 255}, {Op: api.CsrSwap, Form: api.Double, Csr: 1}, {Op: api.ToWord, Form: api.Quad},
		{Op: api.Convert}, {Op: api.Convert, From: 4}, {Op: api.Add, From: api.Double},
		{Op: api.ToInt, Kind: 4}, {Op: api.Add, Kind: api.WU},
		{Op: api.MulAdd, Rd: 32}, {Op: api.MulAdd, Rs1: 32}, {Op: api.MulAdd, Rs2: 255}, {Op: api.MulAdd, Rs3: 64},
		{Op: api.CsrSwapI, Rs1: 32, Csr: 1}, {Op: api.Store, Rs2: 32},
		{Op: api.Add, Rm: 5}, {Op: api.MulAdd, Rm: 6}, {Op: api.Sqrt, Rm: 8}, {Op: api.SignCopy, Rm: 1},
		{Op: api.Load, Imm: 2048}, {Op: api.Store, Imm: -2049}, {Op: api.Add, Imm: 1},
		{Op: api.CsrSwap}, {Op: api.CsrSet, Csr: 4}, {Op: api.Load, Csr: 1},
		{Op: api.Sqrt, Rs2: 1}, {Op: api.Add, Rs3: 1}, {Op: api.Store, Rd: 1},
	} {
		if got := toSaid(Text(x)); got != (said{e: api.ErrInst}) {
			t.Errorf("Text(%+v): %v", x, got)
		}
	}
}

// P27.2, by hand: texts that are no instruction's.
func TestNoTextByHand(t *testing.T) {
	for _, s := range []string{
		"", " ", "  ", ",", "(", "\n", "\x00", "\xff\xfe",
		"fadd.s", "fadd.s ", "fadd", "fadd.s f1", "fadd.s f1,", "fadd.s f1, ", "fadd.s f1, f2, f3, ", // not all of it
		"fadd.s f1, f2, f3, dyn ", "fadd.s f1, f2, f3, dyn,", "fadd.s f1, f2, f3, dyn, rne", "fadd.s f1, f2, f3, f4, dyn", "fadd.s f1, f2, f3, dyn\n", // too much
		" fadd.s f1, f2, f3, dyn", "fadd.s  f1, f2, f3, dyn", "fadd.s\tf1, f2, f3, dyn", "fadd.s f1,  f2, f3, dyn", "fadd.s f1 , f2, f3, dyn", "fadd.s f1,f2, f3, dyn", // blanks
		"fadd.s f1, f2, f3,dyn", "fadd.s f1, f2 f3, dyn", "fadd.s f1, f2, f3 dyn", "fadd.sf1, f2, f3, dyn", "fadd.s f1; f2, f3, dyn",
		"FADD.S f1, f2, f3, dyn", "fadd.s F1, f2, f3, dyn", "fadd.s f1, f2, f3, DYN", // capitals
		"fadd.w f1, f2, f3, dyn", "fadd.x f1, f2, f3, dyn", "fadds f1, f2, f3, dyn", "fcvt.s.s f1, f2, rne", "fmv.x.q x1, f2", "fmv.x.s x1, f2", "fld.s f1, 0(x2)", "add x1, x2, x3", ".byte 01", // names
		"fadd.s f32, f2, f3, dyn", "fadd.s f01, f2, f3, dyn", "fadd.s f-1, f2, f3, dyn", "fadd.s f+1, f2, f3, dyn", "fadd.s f, f2, f3, dyn", "fadd.s 1, f2, f3, dyn", "fadd.s , f2, f3, dyn", // registers
		"fadd.s f1, f2, f257, dyn", "fadd.s ft1, f2, f3, dyn", "fadd.s f99999999999999999999, f2, f3, dyn",
		"fadd.s x1, f2, f3, dyn", "fadd.s f1, x2, f3, dyn", "fadd.s f1, f2, x3, dyn", "fmadd.s f1, f2, f3, x4, dyn", // the other file
		"fsqrt.s x1, f2, rne", "fsqrt.s f1, x2, rne", "fcvt.s.d x1, f2, rne", "fcvt.s.d f1, x2, rne",
		"fcvt.w.s f1, f2, rne", "fcvt.w.s x1, x2, rne", "fcvt.s.w f1, f2, rne", "fcvt.s.w x1, x2, rne",
		"fmv.x.w f1, f2", "fmv.x.w x1, x2", "fmv.w.x f1, f2", "fmv.w.x x1, x2", "fclass.s f1, f2", "fclass.s x1, x2",
		"flt.s f1, f2, f3", "fle.q x1, x2, f3", "feq.h x1, f2, x3", "fmin.s x1, f2, f3", "fsgnj.s f1, f2, x3",
		"flw x1, 0(x2)", "flw f1, 0(f2)", "fsw x1, 0(x2)", "fsw f1, 0(f2)", "csrrw f1, frm, x2", "csrrw x1, frm, f2", "csrrwi f1, frm, 2",
		"fadd.s f1, f2, f3, 7", "fadd.s f1, f2, f3, rod", "fadd.s f1, f2, f3, dynx", "fsqrt.s f1, f2", "fcvt.w.s x1, f2", "fmin.s f1, f2, f3, rne", "feq.s x1, f2, f3, rne", "fmv.x.w x1, f2, rne", // modes
		"flw f1, 2048(x2)", "flw f1, -2049(x2)", "fsw f1, 2048(x2)", "fsw f1, -2049(x2)", "flw f1, 65536(x2)", "flw f1, 65540(x2)", "flw f1, -65532(x2)", // imm
		"flw f1, 4294967296(x2)", "flw f1, 18446744073709551620(x2)", "flw f1, 99999999999999999999999(x2)",
		"flw f1, +4(x2)", "flw f1, 04(x2)", "flw f1, -04(x2)", "flw f1, 00(x2)", "flw f1, (x2)", "flw f1, -(x2)", "flw f1, --4(x2)", "flw f1, 0x4(x2)", "flw f1, 1_0(x2)", "flw f1, 4.0(x2)",
		"flw f1, 4 (x2)", "flw f1, 4( x2)", "flw f1, 4(x2 )", "flw f1, 4(x2", "flw f1, 4x2)", "flw f1, 4", "flw f1, 4()", "flw f1, 4(x2))", "flw f1, 4((x2))", "flw f1, 4[x2]", "flw f1, x2", "fsw 4(x2), f1",
		"csrrw x1, csr, x2", "csrrw x1, 1, x2", "csrrw x1, x2, frm", "csrrw x1, , x2", "csrrw x1, frm", "csrrw x1, frm, 2", "csrrw x1, FRM, x2", // control registers
		"csrrwi x1, frm, 32", "csrrwi x1, frm, -1", "csrrwi x1, frm, x2", "csrrwi x1, frm, 256", "csrrwi x1, frm, 259", "csrrwi x1, frm, 03", "csrrwi x1, frm, +3", "csrrwi x1, frm, ", "csrrwi x1, frm", "csrrwi x1, frm, 99999999999999999999",
		".word 00000000", "000000 fadd.s f0, f0, f0, rne", "fadd.s f1, f2, f3, dyn # a sum",
	} {
		if got := toInst(Read(s)); got != noLine {
			t.Errorf("Read(%q): %v", s, got)
		}
		if got := toCoded(ReadWord(s)); got != (coded{e: api.ErrLine}) && s != ".word 00000000" {
			t.Errorf("ReadWord(%q): %v", s, got)
		}
	}
}

// holds holds x's Text against the model and, if x may be, Read of it against x.
func holds(t *testing.T, x api.Inst) (is bool) {
	t.Helper()
	want := modelText(x)
	got := toSaid(Text(x))
	if got != want {
		t.Fatalf("Text(%+v): %v; wanted %v", x, got, want)
	}
	if want.e != api.OK {
		return false
	}
	if back := toInst(Read(got.s)); back != (inst{x: x}) {
		t.Fatalf("%+v is %q, which is %v", x, got.s, back)
	}
	return true
}

// P27.2 and P27.5: in each row each field with each number that its type has, the others being the least and others that may be.
func TestFields(t *testing.T) {
	if len(allRows) != 136 {
		t.Error("rows:", len(allRows))
	}
	s := source(27)
	for _, first := range allRows {
		for _, x := range []api.Inst{first, s.like(first)} {
			for _, field := range fields(&x) {
				kept := *field
				for n := range 256 {
					*field = uint8(n)
					holds(t, x)
				}
				*field = kept
			}
		}
	}
}

// P27.2 and P27.5: in each Op each imm that its type has.
func TestImms(t *testing.T) {
	s := source(28)
	last := api.NoOp
	for _, first := range allRows {
		if first.Op == last {
			continue
		}
		last = first.Op
		count := 0
		x := s.like(first)
		for n := range 1 << 16 {
			x.Imm = int16(uint16(n))
			if holds(t, x) {
				count++
			}
		}
		if want := map[api.Op]int{api.Load: 4096, api.Store: 4096}[x.Op]; count != max(want, 1) {
			t.Errorf("imms of %d: %d", x.Op, count)
		}
	}
}

// P27.2 and P27.5: instructions that may be, and such with one and two places that were turned.
func TestText(t *testing.T) {
	s := source(29)
	counts := map[bool]int{}
	for range 100000 {
		counts[holds(t, s.any())]++
	}
	if counts[true] < 20000 || counts[false] < 20000 {
		t.Error("too few of some kind:", counts)
	}
}

// P27.2 and P27.5: texts with one and two things damaged; what is read is told as it was.
func TestRead(t *testing.T) {
	s := source(30)
	counts := map[api.Errno]int{}
	for range 200000 {
		text := modelText(s.good()).s
		for range 1 + s.below(2) {
			text = s.damaged(text)
		}
		got := toInst(Read(text))
		if want := modelRead(text); got != want {
			t.Fatalf("Read(%q): %v; wanted %v", text, got, want)
		}
		if got.e == api.OK && toSaid(Text(got.x)) != (said{s: text}) {
			t.Fatalf("%q is %v, which is another text", text, got)
		}
		counts[got.e]++
	}
	if counts[api.OK] < 10000 || counts[api.ErrLine] < 10000 {
		t.Error("too few of some kind:", counts)
	}
}

// P27.2: each row's name with the operands of each other one.
func TestOthersOperands(t *testing.T) {
	s := source(31)
	for _, one := range allRows {
		name, _, _ := strings.Cut(modelText(one).s, " ")
		for _, other := range allRows {
			_, operands, _ := strings.Cut(modelText(s.like(other)).s, " ")
			text := name + " " + operands
			if got, want := toInst(Read(text)), modelRead(text); got != want {
				t.Fatalf("Read(%q): %v; wanted %v", text, got, want)
			}
		}
	}
}

// P27.3 and P27.5: words of instructions, such with bits turned, and others: as lines, and back.
func TestWord(t *testing.T) {
	s := source(32)
	counts := map[bool]int{}
	for range 200000 {
		w := s.word()
		line := modelWord(w)
		if got := Word(w); got != line {
			t.Fatalf("Word(%08x): %q; wanted %q", w, got, line)
		}
		if got := toCoded(ReadWord(line)); got != (coded{w: w}) {
			t.Fatalf("%08x is %q, which is %v", w, line, got)
		}
		counts[strings.HasPrefix(line, ".word ")]++
	}
	if counts[true] < 20000 || counts[false] < 20000 {
		t.Error("too few of some kind:", counts)
	}
}

// P27.3: each hex in each place of a word that is no instruction, and nothing else in any.
func TestWordDigits(t *testing.T) {
	for place := range 8 {
		for c := range 256 {
			// The lowest two bits of no opcode are 0.
			digits := []byte("12345678")
			digits[place] = byte(c)
			line := ".word " + string(digits)
			if got, want := toCoded(ReadWord(line)), modelReadWord(line); got != want {
				t.Errorf("ReadWord(%q): %v; wanted %v", line, got, want)
			}
		}
	}
}

// P27.3, by hand: lines that are no word's.
func TestNoWordByHand(t *testing.T) {
	for _, s := range []string{
		"", ".", ".word", ".word ", ".word 0", ".word 0000000", ".word 000000000", ".word 0000000000000000", // too few hex, too many
		".word  00000000", " .word 00000000", ".word 00000000 ", ".word\t00000000", ".word00000000", ".word 0000 000", ".word 00000000\n",
		".word 0x000000", ".word 0000000A", ".word ABCDEF00", ".word 0000000g", ".word -0000000", ".word +0000000", ".word ０00000", // no hex
		".Word 00000000", ".WORD 00000000", "word 00000000", ".words 00000000", ".wor 00000000", "00000000",
		".word fadd.s f0, f0, f0, rne", ".byte 00", ".byte 00000000", "000000 .word 00000000",
		".word 00000053", ".word 003100d3", ".word fe112e27", ".word 0021d0f3", ".word 203170c3", ".word 00002007", // instructions
	} {
		if got := toCoded(ReadWord(s)); got != (coded{e: api.ErrLine}) {
			t.Errorf("ReadWord(%q): %v", s, got)
		}
	}
	for s, want := range map[string]uint32{
		".word 00000000": 0, ".word ffffffff": 0xffffffff, ".word 89abcdef": 0x89abcdef, ".word 01234567": 0x01234567,
		".word 003150d3": 0x003150d3, ".word 00401073": 0x00401073, ".word 40008053": 0x40008053,
	} {
		if got := toCoded(ReadWord(s)); got != (coded{w: want}) || Word(want) != s {
			t.Errorf("ReadWord(%q): %v; Word %q", s, got, Word(want))
		}
	}
}

// P27.3 and P27.5: lines with one and two things damaged; what is read is told as it was.
func TestReadWord(t *testing.T) {
	s := source(33)
	counts := map[api.Errno]int{}
	for range 100000 {
		line := modelWord(s.word())
		for range s.below(3) {
			line = s.damaged(line)
		}
		got := toCoded(ReadWord(line))
		if want := modelReadWord(line); got != want {
			t.Fatalf("ReadWord(%q): %v; wanted %v", line, got, want)
		}
		if got.e == api.OK && Word(got.w) != line {
			t.Fatalf("%q is %08x, which is another line", line, got.w)
		}
		counts[got.e]++
	}
	if counts[api.OK] < 10000 || counts[api.ErrLine] < 10000 {
		t.Error("too few of some kind:", counts)
	}
}

// P27.5: of many unlike words no two have one line.
func TestUnlike(t *testing.T) {
	s := source(34)
	seen := map[string]uint32{}
	for i := range 60000 {
		w := s.word()
		if i < len(allRows) {
			w, _ = encode.Encode(allRows[i])
		}
		line := Word(w)
		if v, is := seen[line]; is && v != w {
			t.Fatalf("%08x and %08x are %q", v, w, line)
		}
		seen[line] = w
	}
}

// P27.6: the name of the row, one blank behind it, and one behind each comma; no other white space.
func TestNameAndBlanks(t *testing.T) {
	s := source(35)
	for range 40000 {
		x := s.good()
		text, e := Text(x)
		row, _ := table.Of(x.Op, x.Form, x.From, x.Kind)
		name, _ := table.Name(row)
		words := strings.Fields(text)
		if e != api.OK || words[0] != name || strings.Join(words, " ") != text || strings.Count(text, ",") != len(words)-2 {
			t.Fatalf("%+v is %q, %v", x, text, e)
		}
		for _, word := range words[1 : len(words)-1] {
			if strings.IndexByte(word, ',') != len(word)-1 {
				t.Fatalf("%+v is %q", x, text)
			}
		}
		w, _ := encode.Encode(x)
		if Word(w) != text {
			t.Fatalf("%08x is %q, and its instruction %q", w, Word(w), text)
		}
	}
	for n := range uint8(4) {
		name, e := csr.Name(int(n))
		text, _ := Text(api.Inst{Op: api.CsrSwap, Csr: n})
		if e == api.OK && text != "csrrw x0, "+name+", x0" {
			t.Errorf("the control register %d: %q", n, text)
		}
	}
}

// P27.6: registers are of the file that the Op reads or writes there.
func TestFiles(t *testing.T) {
	s := source(36)
	for _, first := range allRows {
		x := s.like(first)
		w, _ := encode.Encode(x)
		use, _ := decode.Uses(w)
		wanted := [2]uint32{use.ReadX | use.WriteX, use.ReadF | use.WriteF}
		var got [2]uint32
		for file, letter := range []string{"x", "f"} {
			for n, name := range numbers(0, 31) {
				words := strings.FieldsFunc(Word(w), func(c rune) bool { return strings.ContainsRune(" ,()", c) })
				if slices.Contains(words, letter+name) {
					got[file] |= 1 << n
				}
			}
		}
		if got != wanted {
			t.Errorf("%q names %x; it uses %x", Word(w), got, wanted)
		}
	}
}

// The rules: texts of great length are none, and are told so at once.
func TestLongTexts(t *testing.T) {
	for _, c := range []string{"f", "0", "1", " ", ",", "-", "(", ".word ", "fadd.s ", "f1, ", "\x00"} {
		long := strings.Repeat(c, 1<<20/len(c))
		for _, s := range []string{long, "fadd.s " + long, "fadd.s f1, f2, f3, " + long, "fadd.s f1, f2, f3, dyn" + long, "flw f1, " + long, "flw f1, -4(" + long, "csrrwi x1, frm, 3" + long, ".word " + long, ".word 00000000" + long} {
			if got := toInst(Read(s)); got != noLine {
				t.Errorf("Read of many %q: %v", c, got)
			}
			if got := toCoded(ReadWord(s)); got != (coded{e: api.ErrLine}) {
				t.Errorf("ReadWord of many %q: %v", c, got)
			}
		}
	}
}

// P0.1: what a call answers hangs on its arguments alone, whatever was asked ahead.
func TestAgain(t *testing.T) {
	s := source(37)
	type answers struct {
		text said
		read inst
		line string
		word coded
	}
	type asked struct {
		x api.Inst
		s string
		w uint32
	}
	ask := func(a asked) answers {
		return answers{toSaid(Text(a.x)), toInst(Read(a.s)), Word(a.w), toCoded(ReadWord(a.s))}
	}
	l := make([]asked, 2000)
	first := make([]answers, len(l))
	for i := range l {
		l[i] = asked{s.any(), s.damaged(modelWord(s.word())), s.word()}
		first[i] = ask(l[i])
	}
	for i := len(l) - 1; i >= 0; i-- {
		if got := ask(l[i]); got != first[i] {
			t.Fatalf("%+v: %v, and ahead %v", l[i], got, first[i])
		}
	}
}
