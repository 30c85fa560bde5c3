package table

import (
	"slices"
	"testing"

	"abacus/api"
)

// The chapter's examples.
func TestExamples(t *testing.T) {
	if Len() != 136 {
		t.Error("Len:", Len())
	}
	for w, want := range map[uint32]string{
		0x003100d3: "fadd.s", 0x003150d3: "", 0x003170d3: "fadd.s",
		0xe00090d3: "fclass.s", 0xe60080d3: "",
		0x40108053: "fcvt.s.d", 0x40008053: "",
		0x003110f3: "csrrw", 0x004110f3: "", 0x00316073: "csrrsi",
	} {
		r, is := Find(w)
		name, _ := Name(r)
		if is != (want != "") || name != want {
			t.Errorf("Find(%08x): %v, %v, named %s; wanted %s", w, r, is, name, want)
		}
	}
	r, e := Of(api.ToInt, api.Half, 0, api.LU)
	if got := toCalled(Name(r)); e != api.OK || got != (called{name: "fcvt.lu.h"}) {
		t.Error("Of(ToInt, Half, 0, LU):", r, e, got)
	}
	r, e = Named("fcvt.d.wu")
	if e != api.OK || r.Op != api.FromInt || r.Form != api.Double || r.From != 0 || r.Kind != api.WU {
		t.Error("Named(fcvt.d.wu):", r, e)
	}
	if got := toTold(Named("fcvt.s.s")); got != (told{e: api.ErrRow}) {
		t.Error("Named(fcvt.s.s):", got)
	}
	if got := toTold(Of(api.Convert, api.Single, api.Single, 0)); got != (told{e: api.ErrRow}) {
		t.Error("Of(Convert, Single, Single, 0):", got)
	}
	if got := toTold(Of(200, 0, 0, 0)); got != (told{e: api.ErrArg}) {
		t.Error("Of(200, 0, 0, 0):", got)
	}
}

// P24.1: all rows, in their order, with all that they have.
func TestRows(t *testing.T) {
	l := Rows()
	if len(l) != len(model) || Len() != len(model) || len(model) != 136 {
		t.Fatalf("Rows: %d, Len: %d; wanted %d", len(l), Len(), len(model))
	}
	for i, x := range model {
		if l[i] != x.row {
			t.Errorf("row %d, %s: %+v; wanted %+v", i, x.name, l[i], x.row)
		}
	}
}

// P24.1, by hand: rows as manuals have them.
func TestRowsByHand(t *testing.T) {
	for i, want := range map[int]api.Row{
		0:   {Op: api.Load, Form: api.Single, Mask: 0x707f, Match: 0x2007, Layout: api.LayLoad},
		1:   {Op: api.Load, Form: api.Double, Mask: 0x707f, Match: 0x3007, Layout: api.LayLoad},
		2:   {Op: api.Load, Form: api.Half, Mask: 0x707f, Match: 0x1007, Layout: api.LayLoad},
		3:   {Op: api.Load, Form: api.Quad, Mask: 0x707f, Match: 0x4007, Layout: api.LayLoad},
		7:   {Op: api.Store, Form: api.Quad, Mask: 0x707f, Match: 0x4027, Layout: api.LayStore},
		8:   {Op: api.MulAdd, Form: api.Single, Mask: 0x600007f, Match: 0x43, Layout: api.LayFour},
		23:  {Op: api.NegMulAdd, Form: api.Quad, Mask: 0x600007f, Match: 0x600004f, Layout: api.LayFour},
		24:  {Op: api.Add, Form: api.Single, Mask: 0xfe00007f, Match: 0x53, Layout: api.LayThreeM},
		38:  {Op: api.Div, Form: api.Half, Mask: 0xfe00007f, Match: 0x1c000053, Layout: api.LayThreeM},
		41:  {Op: api.Sqrt, Form: api.Double, Mask: 0xfff0007f, Match: 0x5a000053, Layout: api.LayTwoM},
		44:  {Op: api.SignCopy, Form: api.Single, Mask: 0xfe00707f, Match: 0x20000053, Layout: api.LayThree},
		63:  {Op: api.Max, Form: api.Quad, Mask: 0xfe00707f, Match: 0x2e001053, Layout: api.LayThree},
		64:  {Op: api.Convert, Form: api.Single, From: api.Double, Mask: 0xfff0007f, Match: 0x40100053, Layout: api.LayTwoM},
		67:  {Op: api.Convert, Form: api.Double, From: api.Single, Mask: 0xfff0007f, Match: 0x42000053, Layout: api.LayTwoM},
		75:  {Op: api.Convert, Form: api.Quad, From: api.Half, Mask: 0xfff0007f, Match: 0x46200053, Layout: api.LayTwoM},
		76:  {Op: api.Eq, Form: api.Single, Mask: 0xfe00707f, Match: 0xa0002053, Layout: api.LayThree},
		87:  {Op: api.Le, Form: api.Quad, Mask: 0xfe00707f, Match: 0xa6000053, Layout: api.LayThree},
		88:  {Op: api.ToInt, Form: api.Single, Kind: api.W, Mask: 0xfff0007f, Match: 0xc0000053, Layout: api.LayTwoM},
		103: {Op: api.ToInt, Form: api.Quad, Kind: api.LU, Mask: 0xfff0007f, Match: 0xc6300053, Layout: api.LayTwoM},
		109: {Op: api.FromInt, Form: api.Double, Kind: api.WU, Mask: 0xfff0007f, Match: 0xd2100053, Layout: api.LayTwoM},
		120: {Op: api.ToWord, Form: api.Single, Mask: 0xfff0707f, Match: 0xe0000053, Layout: api.LayTwo},
		122: {Op: api.ToWord, Form: api.Half, Mask: 0xfff0707f, Match: 0xe4000053, Layout: api.LayTwo},
		126: {Op: api.Classify, Form: api.Quad, Mask: 0xfff0707f, Match: 0xe6001053, Layout: api.LayTwo},
		128: {Op: api.OfWord, Form: api.Double, Mask: 0xfff0707f, Match: 0xf2000053, Layout: api.LayTwo},
		130: {Op: api.CsrSwap, Mask: 0x707f, Match: 0x1073, Layout: api.LayCsr},
		132: {Op: api.CsrClear, Mask: 0x707f, Match: 0x3073, Layout: api.LayCsr},
		133: {Op: api.CsrSwapI, Mask: 0x707f, Match: 0x5073, Layout: api.LayCsrI},
		135: {Op: api.CsrClearI, Mask: 0x707f, Match: 0x7073, Layout: api.LayCsrI},
	} {
		if l := Rows(); i >= len(l) || l[i] != want {
			t.Errorf("row %d is not %+v", i, want)
		}
	}
}

// P0.1: the rows that are told are new each time: they may be written over, spare room too.
func TestRowsAreNew(t *testing.T) {
	want := slices.Clone(Rows())
	for range 3 {
		l := Rows()
		l = l[:cap(l)]
		for i := range l {
			l[i] = api.Row{Op: 99, Mask: 9, Match: 9}
		}
		if !slices.Equal(Rows(), want) {
			t.Fatal("what was told was kept")
		}
	}
}

// ofOp are the model's rows of o.
func ofOp(o api.Op) []api.Row {
	var out []api.Row
	for _, x := range model {
		if x.row.Op == o {
			out = append(out, x.row)
		}
	}
	return out
}

// P24.1: the rows of each Op, in order; of what is no Op there are none.
func TestEach(t *testing.T) {
	for o := range 256 {
		if l := slices.Collect(Each(api.Op(o))); !slices.Equal(l, ofOp(api.Op(o))) {
			t.Errorf("Each(%d): %v; wanted %v", o, l, ofOp(api.Op(o)))
		}
	}
}

// P24.1 and P0.1: a walk may be left early, gone over again, and gone over within itself.
func TestEachLeft(t *testing.T) {
	for o := range api.CsrClearI + 2 {
		want := ofOp(o)
		walk := Each(o)
		for n := range want {
			var l []api.Row
			for r := range walk {
				l = append(l, r)
				if !slices.Equal(slices.Collect(walk), want) {
					t.Fatalf("Each(%d) within itself", o)
				}
				if len(l) == n+1 {
					break
				}
			}
			if !slices.Equal(l, want[:n+1]) {
				t.Errorf("Each(%d), left behind %d: %v; wanted %v", o, n+1, l, want[:n+1])
			}
		}
		if !slices.Equal(slices.Collect(walk), want) {
			t.Errorf("Each(%d), gone over again", o)
		}
	}
}

// P24.2 and P24.4: of all words, but for the registers rd and rs1, which are of no account: the one row, or none.
func TestFind(t *testing.T) {
	s := source(24)
	counts := map[api.Op]int{}
	for low := range uint32(1 << 10) {
		for high := range uint32(1 << 12) {
			w := high<<20 | low>>7<<12 | low&127
			w |= uint32(s.next()) & 0x000f8f80
			want := modelFind(w)
			counts[want.row.Op]++
			if got := toFound(Find(w)); got != want {
				t.Fatalf("Find(%08x): %v; wanted %v", w, got, want)
			}
		}
	}
	for _, b := range book {
		if counts[b.op] == 0 {
			t.Errorf("no word of %s", b.name)
		}
	}
}

// P24.2: words of each row with all values of each field, and these with one bit turned.
func TestFindNear(t *testing.T) {
	s := source(25)
	fieldsOfWords := []uint32{0, 0x00000f80, 0x000f8000, 0x01f00000, 0xf8000000, 0x00007000, 0xfff00000, 0xfe000f80, 0xffffffff}
	for _, x := range model {
		for range 10 {
			for _, some := range fieldsOfWords {
				w := x.row.Match | (s.word()|some)&^x.row.Mask
				for _, w := range []uint32{w, w &^ some, w&^0xfff00000 | w&0x00300000} {
					for at := range 33 {
						v := w ^ uint32(uint64(1)<<at>>1)
						if got, want := toFound(Find(v)), modelFind(v); got != want {
							t.Fatalf("Find(%08x): %v; wanted %v", v, got, want)
						}
					}
				}
			}
		}
	}
}

// P24.2: a word is of the rows of the table of which the model's are.
func TestFits(t *testing.T) {
	s := source(26)
	for _, x := range model {
		for range 3000 {
			w := s.word()
			switch s.next() % 4 {
			case 0:
				w = w&^x.row.Mask | x.row.Match
			case 1:
				w = (w&^x.row.Mask | x.row.Match) &^ 0xffc00000
			case 2:
				w = (w&^x.row.Mask | x.row.Match) ^ 1<<(s.next()%32)
			}
			if got := Fits(x.row, w); got != x.takes(w) {
				t.Fatalf("Fits(%s, %08x): %v", x.name, w, got)
			}
		}
	}
}

// P24.2: each mode and each number of a control register, by the Layout.
func TestFitsByLayout(t *testing.T) {
	for l := range 256 {
		layout := api.Layout(l)
		r := api.Row{Layout: layout}
		moded := layout == api.LayFour || layout == api.LayThreeM || layout == api.LayTwoM
		csr := layout == api.LayCsr || layout == api.LayCsrI
		for rm := range uint32(8) {
			for high := range uint32(1 << 12) {
				w := high<<20 | rm<<12
				want := !(moded && (rm == 5 || rm == 6)) && !(csr && (high < 1 || high > 3))
				if got := Fits(r, w); got != want {
					t.Fatalf("Fits(the Layout %d, %08x): %v", l, w, got)
				}
				if got := Fits(r, w|0x000f8fff); got != want {
					t.Fatalf("Fits(the Layout %d, %08x): %v", l, w|0x000f8fff, got)
				}
			}
		}
	}
}

// fitsBits goes by the bits of the Mask alone, one by one.
func fitsBits(r api.Row, w uint32) bool {
	for at := range 32 {
		one := uint32(1) << at
		if r.Mask&one != 0 && (w&one != 0) != (r.Match&one != 0) {
			return false
		}
	}
	return true
}

// P24.2: a row that is none of the table counts by its Mask, Match and Layout alone.
func TestFitsAnyRow(t *testing.T) {
	s := source(27)
	layouts := []api.Layout{api.NoLayout, api.LayLoad, api.LayStore, api.LayThree, api.LayTwo, api.LayCsrI + 1, 99, 255}
	yes := 0
	for range 200000 {
		r := api.Row{Op: api.Op(s.next()), Form: api.Form(s.next()), From: api.Form(s.next()), Kind: api.IntKind(s.next()), Layout: pick(&s, layouts)}
		r.Mask = s.word() & s.word()
		r.Match = s.word()
		w := s.word()
		switch s.next() % 3 {
		case 0:
			r.Match &= r.Mask
			w = w&^r.Mask | r.Match
		case 1: // what Match has beside Mask counts for nothing
			w = w&^r.Mask | r.Match&r.Mask
		}
		want := fitsBits(r, w)
		if want {
			yes++
		}
		if got := Fits(r, w); got != want {
			t.Fatalf("Fits(%+v, %08x): %v", r, w, got)
		}
	}
	if yes < 50000 {
		t.Error("too few that fit:", yes)
	}
}

// P24.2: which Layouts have a mode, of all numbers.
func TestModed(t *testing.T) {
	for l := range 256 {
		want := l == int(api.LayFour) || l == int(api.LayThreeM) || l == int(api.LayTwoM)
		if Moded(api.Layout(l)) != want {
			t.Errorf("Moded(%d) is not %v", l, want)
		}
	}
}

// P24.3: the row that has all four, of all Ops' numbers, and formats and kinds that are none.
func TestOf(t *testing.T) {
	rows := map[api.Row]api.Row{}
	for _, x := range model {
		rows[api.Row{Op: x.row.Op, Form: x.row.Form, From: x.row.From, Kind: x.row.Kind}] = x.row
	}
	numbers := []uint8{0, 1, 2, 3, 4, 5, 7, 8, 128, 252, 255}
	for o := range 256 {
		for _, f := range numbers {
			for _, from := range numbers {
				for _, k := range numbers {
					key := api.Row{Op: api.Op(o), Form: api.Form(f), From: api.Form(from), Kind: api.IntKind(k)}
					want := told{e: api.ErrArg}
					if o >= 1 && o <= 31 {
						row, is := rows[key]
						want = told{row, api.ErrRow}
						if is {
							want.e = api.OK
						}
					}
					if got := toTold(Of(key.Op, key.Form, key.From, key.Kind)); got != want {
						t.Fatalf("Of(%d, %d, %d, %d): %v; wanted %v", o, f, from, k, got, want)
					}
				}
			}
		}
	}
}

// P24.4: no word is of two rows, each row has words, Match one among them; no two have the same four.
func TestAtMostOne(t *testing.T) {
	l := Rows()
	for i, a := range l {
		hasCsr := a.Layout == api.LayCsr || a.Layout == api.LayCsrI
		if Fits(a, a.Match) == hasCsr {
			t.Errorf("Fits of %+v and its Match: %v", a, !hasCsr)
		}
		if hasCsr && !Fits(a, a.Match|1<<20) {
			t.Errorf("%+v has no words", a)
		}
		for _, b := range l[i+1:] {
			if (a.Match^b.Match)&a.Mask&b.Mask == 0 {
				t.Errorf("%+v and %+v have a word", a, b)
			}
			if a.Op == b.Op && a.Form == b.Form && a.From == b.From && a.Kind == b.Kind {
				t.Errorf("%+v and %+v are the same", a, b)
			}
		}
	}
}

// P24.5: Mask has all of Match, the lowest seven, and no bit that is an instruction's own.
func TestMasks(t *testing.T) {
	const rd, rs1, rs2, rs3, rm, high = 0xf80, 0xf8000, 0x1f00000, 0xf8000000, 0x7000, 0xfff00000
	taken := map[api.Layout]uint32{
		api.LayLoad:   rd | rs1 | high,
		api.LayStore:  rs1 | rs2 | 0xfe000f80,
		api.LayFour:   rd | rs1 | rs2 | rs3 | rm,
		api.LayThreeM: rd | rs1 | rs2 | rm,
		api.LayThree:  rd | rs1 | rs2,
		api.LayTwoM:   rd | rs1 | rm,
		api.LayTwo:    rd | rs1,
		api.LayCsr:    rd | rs1 | high,
		api.LayCsrI:   rd | rs1 | high,
	}
	for _, r := range Rows() {
		own, is := taken[r.Layout]
		if !is || r.Match&^r.Mask != 0 || r.Mask&0x7f != 0x7f || r.Mask&own != 0 {
			t.Errorf("the Mask of %+v", r)
		}
	}
}
