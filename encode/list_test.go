package encode

import (
	"encoding/binary"
	"fmt"
	"slices"
	"testing"

	"abacus/api"
)

// many is what All and Bytes answer.
type many[T uint32 | byte] struct {
	l  []T
	at int
	e  api.Errno
}

func toMany[T uint32 | byte](l []T, at int, e api.Errno) many[T] { return many[T]{l, at, e} }

func (m many[T]) is(o many[T]) bool {
	return slices.Equal(m.l, o.l) && m.at == o.at && m.e == o.e
}

func (m many[T]) String() string { return fmt.Sprintf("%x, %d, %v", m.l, m.at, m.e) }

// bare tells whether in the room behind the list nothing stands.
func (m many[T]) bare() bool {
	var zero T
	for _, x := range m.l[len(m.l):cap(m.l)] {
		if x != zero {
			return false
		}
	}
	return m.e == api.OK || cap(m.l) == 0
}

// modelAll is what All answers.
func modelAll(l []api.Inst) many[uint32] {
	out := many[uint32]{at: len(l)}
	for i, x := range l {
		one := modelEncode(x)
		if one.e != api.OK {
			return many[uint32]{at: i, e: api.ErrInst}
		}
		out.l = append(out.l, one.w)
	}
	return out
}

// modelBytes is what Bytes answers.
func modelBytes(l []api.Inst) many[byte] {
	words := modelAll(l)
	out := many[byte]{at: words.at, e: words.e}
	for _, w := range words.l {
		out.l = binary.LittleEndian.AppendUint32(out.l, w)
	}
	return out
}

// P26.1: no instructions, one, two, and where the first one is that may not be.
func TestAllByHand(t *testing.T) {
	add := api.Inst{Op: api.Add, Rd: 1, Rs1: 2, Rs2: 3}
	store := api.Inst{Op: api.Store, Rs1: 2, Rs2: 1, Imm: -4}
	none := api.Inst{Op: api.Add, Rm: 5}
	for _, x := range []struct {
		l     []api.Inst
		words []uint32
		bytes []byte
		at    int
		e     api.Errno
	}{
		{nil, nil, nil, 0, api.OK},
		{[]api.Inst{}, nil, nil, 0, api.OK},
		{[]api.Inst{add}, []uint32{0x003100d3}, []byte{0xd3, 0, 0x31, 0}, 1, api.OK},
		{[]api.Inst{store, add}, []uint32{0xfe112e27, 0x003100d3}, []byte{0x27, 0x2e, 0x11, 0xfe, 0xd3, 0, 0x31, 0}, 2, api.OK},
		{[]api.Inst{add, add, store}, []uint32{0x003100d3, 0x003100d3, 0xfe112e27}, []byte{0xd3, 0, 0x31, 0, 0xd3, 0, 0x31, 0, 0x27, 0x2e, 0x11, 0xfe}, 3, api.OK},
		{[]api.Inst{none}, nil, nil, 0, api.ErrInst},
		{[]api.Inst{{}, add}, nil, nil, 0, api.ErrInst},
		{[]api.Inst{add, none}, nil, nil, 1, api.ErrInst},
		{[]api.Inst{add, store, none, add, none}, nil, nil, 2, api.ErrInst},
	} {
		if got, want := toMany(All(x.l...)), (many[uint32]{x.words, x.at, x.e}); !got.is(want) || !got.bare() {
			t.Errorf("All(%+v): %v; wanted %v", x.l, got, want)
		}
		if got, want := toMany(Bytes(x.l...)), (many[byte]{x.bytes, x.at, x.e}); !got.is(want) || !got.bare() {
			t.Errorf("Bytes(%+v): %v; wanted %v", x.l, got, want)
		}
	}
}

// P26.1 and P0.1: lists with none, one and several that may not be; what is handed in stays, what is told may be written over.
func TestAll(t *testing.T) {
	s := source(33)
	for range 2000 {
		room := make([]api.Inst, 20)
		for i := range room {
			room[i] = s.good()
		}
		for range s.below(3) {
			room[s.below(20)] = s.any()
		}
		l := room[:s.below(20)]
		kept := slices.Clone(room)
		words, bytes := modelAll(l), modelBytes(l)
		for range 2 {
			one, other := toMany(All(l...)), toMany(Bytes(l...))
			if !one.is(words) || !one.bare() {
				t.Fatalf("All(%+v): %v; wanted %v", l, one, words)
			}
			if !other.is(bytes) || !other.bare() {
				t.Fatalf("Bytes(%+v): %v; wanted %v", l, other, bytes)
			}
			if !slices.Equal(room, kept) {
				t.Fatal("what was handed in is another")
			}
			clear(one.l[:cap(one.l)])
			clear(other.l[:cap(other.l)])
		}
	}
}

// P26.1: a long list.
func TestAllLong(t *testing.T) {
	l := slices.Repeat([]api.Inst{{Op: api.Add, Rd: 1}, {Op: api.Store, Imm: -4}, {Op: api.CsrSet, Csr: 2}}, 4000)
	if got := toMany(All(l...)); !got.is(modelAll(l)) {
		t.Error("a list of 12000:", got.at, got.e)
	}
	if got := toMany(Bytes(l...)); !got.is(modelBytes(l)) {
		t.Error("the bytes of a list of 12000:", got.at, got.e)
	}
	l[11999] = api.Inst{}
	if got := toMany(All(l...)); !got.is(many[uint32]{at: 11999, e: api.ErrInst}) {
		t.Error("a list whose last one may not be:", got.at, got.e)
	}
	if got := toMany(Bytes(l...)); !got.is(many[byte]{at: 11999, e: api.ErrInst}) {
		t.Error("the bytes of a list whose last one may not be:", got.at, got.e)
	}
}

// P26.3, by hand: one of each row of an Op, in order; of no Op none.
func TestEachByHand(t *testing.T) {
	for o, want := range map[api.Op][]api.Inst{
		api.NoOp:     nil,
		32:           nil,
		255:          nil,
		api.Add:      {{Op: api.Add, Form: api.Single}, {Op: api.Add, Form: api.Double}, {Op: api.Add, Form: api.Half}, {Op: api.Add, Form: api.Quad}},
		api.Load:     {{Op: api.Load, Form: api.Single}, {Op: api.Load, Form: api.Double}, {Op: api.Load, Form: api.Half}, {Op: api.Load, Form: api.Quad}},
		api.OfWord:   {{Op: api.OfWord, Form: api.Single}, {Op: api.OfWord, Form: api.Double}, {Op: api.OfWord, Form: api.Half}},
		api.CsrSwap:  {{Op: api.CsrSwap, Csr: 1}},
		api.CsrSetI:  {{Op: api.CsrSetI, Csr: 1}},
		api.Classify: {{Op: api.Classify, Form: api.Single}, {Op: api.Classify, Form: api.Double}, {Op: api.Classify, Form: api.Half}, {Op: api.Classify, Form: api.Quad}},
	} {
		if got := slices.Collect(Each(o)); !slices.Equal(got, want) {
			t.Errorf("Each(%d): %+v; wanted %+v", o, got, want)
		}
	}
	first := api.Inst{Op: api.Convert, Form: api.Single, From: api.Double}
	last := api.Inst{Op: api.Convert, Form: api.Quad, From: api.Half}
	if got := slices.Collect(Each(api.Convert)); len(got) != 12 || got[0] != first || got[11] != last {
		t.Errorf("Each(Convert): %+v", got)
	}
	second := api.Inst{Op: api.FromInt, Kind: api.WU}
	last = api.Inst{Op: api.FromInt, Form: api.Quad, Kind: api.LU}
	if got := slices.Collect(Each(api.FromInt)); len(got) != 16 || got[1] != second || got[15] != last {
		t.Errorf("Each(FromInt): %+v", got)
	}
}

// P26.3 and P0.1: each Op; the walk may be left early, gone over again, and gone over within itself; what it tells may be.
func TestEach(t *testing.T) {
	count := 0
	for o := range 256 {
		var want []api.Inst
		for _, x := range allRows {
			if x.Op == api.Op(o) {
				want = append(want, x)
			}
		}
		walk := Each(api.Op(o))
		for stop := range want {
			var got []api.Inst
			for x := range walk {
				got = append(got, x)
				if inner := slices.Collect(walk); !slices.Equal(inner, want) {
					t.Fatalf("Each(%d), within itself: %+v", o, inner)
				}
				if len(got) == stop+1 {
					break
				}
			}
			if !slices.Equal(got, want[:stop+1]) {
				t.Fatalf("Each(%d), left behind %d: %+v", o, stop+1, got)
			}
		}
		got := slices.Collect(walk)
		if !slices.Equal(got, want) {
			t.Fatalf("Each(%d): %+v; wanted %+v", o, got, want)
		}
		for _, x := range got {
			if !May(x) {
				t.Errorf("Each(%d): %+v may not be", o, x)
			}
		}
		count += len(got)
	}
	if count != 136 {
		t.Error("instructions that were told:", count)
	}
}
