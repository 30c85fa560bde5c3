package order

import (
	"math"
	"math/big"
	"slices"
	"sort"
	"strconv"
	"testing"

	"abacus/api"
	"abacus/exact"
	"abacus/kind"
	"abacus/shape"
)

// check holds all calls of two encodings, both ways round, against what the model says.
func (l layout) check(t *testing.T, a, b api.Bits) {
	t.Helper()
	if got, want := of(l.form, a, b), l.wants(a, b); got != want {
		t.Errorf("format %d, %x and %x: %+v; wanted %+v", l.form, a, b, got, want)
	}
	if got, want := of(l.form, b, a), l.wants(b, a); got != want {
		t.Errorf("format %d, %x and %x: %+v; wanted %+v", l.form, b, a, got, want)
	}
}

// eachForm runs a test on each format, all at the same time as one another and as other tests.
func eachForm(t *testing.T, test func(t *testing.T, l layout)) {
	t.Parallel()
	for _, l := range layouts {
		t.Run(strconv.Itoa(l.w), func(t *testing.T) {
			t.Parallel()
			test(t, l)
		})
	}
}

func halves(list ...uint64) []api.Bits {
	var out []api.Bits
	for _, x := range list {
		out = append(out, api.Bits{Lo: x})
	}
	return out
}

func h(x uint64) api.Bits { return api.Bits{Lo: x} }

// The chapter's examples.
func TestExamples(t *testing.T) {
	for _, c := range []struct {
		a, b uint64
		want api.Relation
	}{{0x8000, 0x0000, api.Equal}, {0x3c00, 0x7e00, api.Unordered}} {
		if got, e := Compare(api.Half, h(c.a), h(c.b)); got != c.want || e != api.OK {
			t.Errorf("Compare(Half, %x, %x): %d, %v", c.a, c.b, got, e)
		}
	}
	for name, c := range map[string]struct{ got, want truth }{
		"Eq(7e00, 7e00)": {told(Eq(api.Half, h(0x7e00), h(0x7e00))), truth{}},
		"Eq(7d00, 3c00)": {told(Eq(api.Half, h(0x7d00), h(0x3c00))), truth{flags: api.Invalid}},
		"Lt(7e00, 3c00)": {told(Lt(api.Half, h(0x7e00), h(0x3c00))), truth{flags: api.Invalid}},
		"Le(3c00, 3c00)": {told(Le(api.Half, h(0x3c00), h(0x3c00))), truth{is: true}},
	} {
		if c.got != c.want {
			t.Errorf("%s: %v; wanted %v", name, c.got, c.want)
		}
	}
	for name, c := range map[string]struct{ got, want choice }{
		"Min(0000, 8000)": {taken(Min(api.Half, h(0x0000), h(0x8000))), choice{b: h(0x8000)}},
		"Max(8000, 0000)": {taken(Max(api.Half, h(0x8000), h(0x0000))), choice{b: h(0x0000)}},
		"Min(7e01, 3c00)": {taken(Min(api.Half, h(0x7e01), h(0x3c00))), choice{b: h(0x3c00)}},
		"Max(7d00, 3c00)": {taken(Max(api.Half, h(0x7d00), h(0x3c00))), choice{b: h(0x3c00), flags: api.Invalid}},
		"Min(7e01, 7e02)": {taken(Min(api.Half, h(0x7e01), h(0x7e02))), choice{b: h(0x7e00)}},
	} {
		if c.got != c.want {
			t.Errorf("%s: %v; wanted %v", name, c.got, c.want)
		}
	}
	for _, c := range [][2]uint64{{0x8000, 0x0000}, {0xfe00, 0xfc00}} {
		if got, e := Total(api.Half, h(c[0]), h(c[1])); got != -1 || e != api.OK {
			t.Errorf("Total(Half, %x): %d, %v", c, got, e)
		}
	}
	if got, e := Sort(api.Half, halves(0x3c00, 0x8000, 0xfc00, 0x0000)...); !slices.Equal(got, halves(0xfc00, 0x8000, 0x0000, 0x3c00)) || e != api.OK {
		t.Errorf("Sort: %x, %v", got, e)
	}
}

// P16.1, by hand: numbers, zeros, infinities and NaNs.
func TestRelations(t *testing.T) {
	for _, c := range []struct {
		a, b     uint64
		want     api.Relation
		eq, less api.Flags
	}{
		{0x3c00, 0x3c00, api.Equal, 0, 0},
		{0x3c00, 0x4000, api.Less, 0, 0},
		{0x4000, 0x3c00, api.Greater, 0, 0},
		{0xbc00, 0x3c00, api.Less, 0, 0},
		{0xbc00, 0xc000, api.Greater, 0, 0},
		{0xc000, 0xbc00, api.Less, 0, 0},
		{0xbc00, 0xbc00, api.Equal, 0, 0},
		{0x0001, 0x8001, api.Greater, 0, 0},
		{0x03ff, 0x0400, api.Less, 0, 0},
		{0x83ff, 0x8400, api.Greater, 0, 0},
		// Zeros.
		{0x0000, 0x0000, api.Equal, 0, 0},
		{0x8000, 0x8000, api.Equal, 0, 0},
		{0x0000, 0x8000, api.Equal, 0, 0},
		{0x8000, 0x0000, api.Equal, 0, 0},
		{0x8000, 0x0001, api.Less, 0, 0},
		{0x0000, 0x0001, api.Less, 0, 0},
		{0x0000, 0x8001, api.Greater, 0, 0},
		{0x8001, 0x8000, api.Less, 0, 0},
		// Infinities.
		{0x7c00, 0x7c00, api.Equal, 0, 0},
		{0xfc00, 0xfc00, api.Equal, 0, 0},
		{0xfc00, 0x7c00, api.Less, 0, 0},
		{0x7c00, 0x7bff, api.Greater, 0, 0},
		{0xfc00, 0xfbff, api.Less, 0, 0},
		{0x8000, 0xfc00, api.Greater, 0, 0},
		// Quiet NaNs: of both signs, on both sides, beside themselves and beside infinities.
		{0x7e00, 0x7e00, api.Unordered, 0, api.Invalid},
		{0xfe00, 0x3c00, api.Unordered, 0, api.Invalid},
		{0x0000, 0x7fff, api.Unordered, 0, api.Invalid},
		{0xffff, 0xfc00, api.Unordered, 0, api.Invalid},
		{0x7c00, 0x7e01, api.Unordered, 0, api.Invalid},
		// Signaling ones, the least and the greatest.
		{0x7c01, 0x3c00, api.Unordered, api.Invalid, api.Invalid},
		{0x3c00, 0x7dff, api.Unordered, api.Invalid, api.Invalid},
		{0xfc01, 0xfc01, api.Unordered, api.Invalid, api.Invalid},
		{0xfdff, 0x7e00, api.Unordered, api.Invalid, api.Invalid},
		{0x7e00, 0x7d00, api.Unordered, api.Invalid, api.Invalid},
	} {
		got := of(api.Half, h(c.a), h(c.b))
		less, equal := c.want == api.Less, c.want == api.Equal
		if got.relation != c.want || got.eq != (truth{equal, c.eq, 0}) || got.lt != (truth{less, c.less, 0}) || got.le != (truth{less || equal, c.less, 0}) {
			t.Errorf("Half %x and %x: %+v; wanted %+v", c.a, c.b, got, c)
		}
	}
}

// P16.2, by hand.
func TestMinMax(t *testing.T) {
	for _, c := range []struct {
		a, b, lesser, greater uint64
		flags                 api.Flags
	}{
		{0x3c00, 0x4000, 0x3c00, 0x4000, 0},
		{0x4000, 0x3c00, 0x3c00, 0x4000, 0},
		{0xbc00, 0xc000, 0xc000, 0xbc00, 0},
		{0xc000, 0x3c00, 0xc000, 0x3c00, 0},
		{0x7c00, 0xfc00, 0xfc00, 0x7c00, 0},
		{0x7c00, 0x7bff, 0x7bff, 0x7c00, 0},
		{0xbc00, 0xbc00, 0xbc00, 0xbc00, 0},
		// Zeros, each order of each two.
		{0x0000, 0x0000, 0x0000, 0x0000, 0},
		{0x0000, 0x8000, 0x8000, 0x0000, 0},
		{0x8000, 0x0000, 0x8000, 0x0000, 0},
		{0x8000, 0x8000, 0x8000, 0x8000, 0},
		{0x8000, 0x8001, 0x8001, 0x8000, 0},
		// One NaN: the other one, infinities and zeros too.
		{0x7e00, 0x3c00, 0x3c00, 0x3c00, 0},
		{0x3c00, 0xfe00, 0x3c00, 0x3c00, 0},
		{0xffff, 0x7c00, 0x7c00, 0x7c00, 0},
		{0xfc00, 0x7fff, 0xfc00, 0xfc00, 0},
		{0x7e00, 0x8000, 0x8000, 0x8000, 0},
		{0x7c01, 0x8000, 0x8000, 0x8000, api.Invalid},
		{0xfbff, 0xfdff, 0xfbff, 0xfbff, api.Invalid},
		{0xfc01, 0xfc00, 0xfc00, 0xfc00, api.Invalid},
		// Two NaNs: the canonical one, of the same too.
		{0xfe00, 0xfe00, 0x7e00, 0x7e00, 0},
		{0x7fff, 0xffff, 0x7e00, 0x7e00, 0},
		{0x7c01, 0x7c01, 0x7e00, 0x7e00, api.Invalid},
		{0x7e05, 0xfc01, 0x7e00, 0x7e00, api.Invalid},
		{0x7dff, 0x7e00, 0x7e00, 0x7e00, api.Invalid},
	} {
		if got, want := taken(Min(api.Half, h(c.a), h(c.b))), (choice{b: h(c.lesser), flags: c.flags}); got != want {
			t.Errorf("Min(Half, %x, %x): %v; wanted %v", c.a, c.b, got, want)
		}
		if got, want := taken(Max(api.Half, h(c.a), h(c.b))), (choice{b: h(c.greater), flags: c.flags}); got != want {
			t.Errorf("Max(Half, %x, %x): %v; wanted %v", c.a, c.b, got, want)
		}
	}
}

// P16.1 to P16.3: each edge of a format with each other one.
func TestEdges(t *testing.T) {
	eachForm(t, func(t *testing.T, l layout) {
		list := l.edges()
		for _, a := range list {
			for _, b := range list {
				l.check(t, a, b)
			}
		}
	})
}

// P16.1 to P16.3: each bit of an encoding counts, whatever the others are.
func TestEachBit(t *testing.T) {
	eachForm(t, func(t *testing.T, l layout) {
		s := source(5 + l.w)
		for place := range l.w {
			for range 20 {
				a := whole(l.any(&s))
				b := new(big.Int).SetBit(a, place, a.Bit(place)^1)
				l.check(t, l.bits(false, a), l.bits(false, b))
			}
		}
	})
}

// P16.1 to P16.3: some of all encodings, and some that are near one another.
func TestAllOver(t *testing.T) {
	eachForm(t, func(t *testing.T, l layout) {
		s := source(16 + l.w)
		for range 20000 {
			a := l.any(&s)
			l.check(t, a, l.any(&s))
			l.check(t, a, l.near(&s, a))
		}
	})
}

// halfValue is what an encoding of Half is, in steps of 2^-24; of an infinity what is beyond all others.
func halfValue(x uint64) int64 {
	field, fraction := x>>10&31, int64(x&1023)
	v := fraction
	if field != 0 {
		v = (fraction + 1024) << (field - 1)
	}
	if x>>15 == 1 {
		return -v
	}
	return v
}

// P16.1 to P16.3: all encodings of Half, each with some others.
func TestAllHalf(t *testing.T) {
	t.Parallel()
	isNaN := func(x uint64) bool { return x&0x7fff > 0x7c00 }
	others := []uint64{0x0000, 0x8000, 0x0001, 0x8001, 0x03ff, 0x8400, 0x3c00, 0xbc00, 0x5555, 0xd5aa, 0x7bff, 0xfbff, 0x7c00, 0xfc00, 0x7c01, 0xfdff, 0x7e00, 0xffff}
	for _, b := range others {
		t.Run(strconv.FormatUint(b, 16), func(t *testing.T) {
			t.Parallel()
			for a := range uint64(1 << 16) {
				want := api.Unordered
				switch x, y := halfValue(a), halfValue(b); {
				case isNaN(a) || isNaN(b):
				case x < y:
					want = api.Less
				case x > y:
					want = api.Greater
				default:
					want = api.Equal
				}
				got := of(api.Half, h(a), h(b))
				if got.relation != want || got != layouts[0].wants(h(a), h(b)) {
					t.Errorf("Half %x and %x: %+v; wanted %d", a, b, got, want)
				}
			}
		})
	}
}

// P16.1, P16.2: the language's own floats, of which two formats are, compare likewise, and its own min and max have -0 below +0.
func TestOwnFloats(t *testing.T) {
	t.Parallel()
	for _, l := range layouts[1:3] {
		s := source(32 + l.w)
		for i := range 60000 {
			a := l.any(&s)
			b := l.near(&s, a)
			if i%3 == 0 {
				b = l.any(&s)
			}
			x, y := l.float(a), l.float(b)
			got := of(l.form, a, b)
			if got.eq.is != (x == y) || got.lt.is != (x < y) || got.le.is != (x <= y) || (got.relation == api.Greater) != (x > y) {
				t.Errorf("format %d, %x and %x: %+v; the floats are %v and %v", l.form, a, b, got, x, y)
			}
			if x != x || y != y {
				continue
			}
			lesser, greater := l.float(got.min.b), l.float(got.max.b)
			if math.Float64bits(lesser) != math.Float64bits(min(x, y)) || math.Float64bits(greater) != math.Float64bits(max(x, y)) {
				t.Errorf("format %d, %x and %x: %v, %v; the floats are %v and %v", l.form, a, b, lesser, greater, x, y)
			}
		}
	}
}

func (l layout) float(b api.Bits) float64 {
	if l.form == api.Single {
		return float64(math.Float32frombits(uint32(b.Lo)))
	}
	return math.Float64frombits(b.Lo)
}

// P16.1: layer 6 compares the exact values likewise.
func TestExactValues(t *testing.T) {
	eachForm(t, func(t *testing.T, l layout) {
		s := source(6 + l.w)
		for range 1000 {
			a := l.any(&s)
			b := l.near(&s, a)
			x, e := kind.Value(l.form, a)
			y, fault := kind.Value(l.form, b)
			if e != api.OK || fault != api.OK {
				continue
			}
			n, e := exact.Cmp(x, y)
			if e != api.OK {
				t.Fatalf("the exact values of %x and %x: %v", a, b, e)
			}
			if got, _ := Compare(l.form, a, b); int(got) != int(api.Equal)+n {
				t.Errorf("Compare(%d, %x, %x): %d; the exact values are %d", l.form, a, b, got, n)
			}
		}
	})
}

// P16.1, P16.3: from the infinity below on, each next number of Half is above the one ahead of it.
func TestNext(t *testing.T) {
	b := shape.Inf(api.Half, true)
	for b != shape.Inf(api.Half, false) {
		next, e := kind.Next(api.Half, b)
		if e != api.OK {
			t.Fatalf("Next(Half, %x): %v", b, e)
		}
		got := of(api.Half, b, next)
		if got.relation != api.Less || got.total != -1 || !got.lt.is || !got.le.is || got.eq.is || got.min.b != b || got.max.b != next {
			t.Errorf("Half %x and the next one: %+v", b, got)
		}
		b = next
	}
}

// allHalf is all encodings of Half in Total's order, by the chapter's words.
func allHalf() []api.Bits {
	var list []api.Bits
	for n := range uint64(1 << 15) {
		list = append(list, h(0xffff-n))
	}
	for n := range uint64(1 << 15) {
		list = append(list, h(n))
	}
	return list
}

// shuffled is l in some other order.
func (s *source) shuffled(l []api.Bits) []api.Bits {
	out := slices.Clone(l)
	for i := range out {
		j := s.below(i + 1)
		out[i], out[j] = out[j], out[i]
	}
	return out
}

// P16.3: all encodings of Half, from some order, from their own, from the other way round, and each one twice.
func TestSortAllHalf(t *testing.T) {
	t.Parallel()
	want := allHalf()
	s := source(163)
	turned := slices.Clone(want)
	slices.Reverse(turned)
	for name, list := range map[string][]api.Bits{"some order": s.shuffled(want), "their own": want, "turned": turned} {
		if got, e := Sort(api.Half, list...); !slices.Equal(got, want) || e != api.OK {
			t.Errorf("Sort of all encodings of Half, %s: %d of them, %v", name, len(got), e)
		}
	}
	var twice []api.Bits
	for _, b := range want {
		twice = append(twice, b, b)
	}
	if got, e := Sort(api.Half, s.shuffled(twice)...); !slices.Equal(got, twice) || e != api.OK {
		t.Errorf("Sort of all encodings of Half twice: %d of them, %v", len(got), e)
	}
}

// P16.3: lists of all lengths up to some, and a long one, sorted by the model.
func TestSort(t *testing.T) {
	eachForm(t, func(t *testing.T, l layout) {
		s := source(3 + l.w)
		for n := range 61 {
			size := n
			if n == 60 {
				size = 20000
			}
			var list []api.Bits
			for range size {
				b := l.any(&s)
				if len(list) > 0 && s.below(3) == 0 {
					b = l.near(&s, list[s.below(len(list))])
				}
				list = append(list, b)
			}
			want := slices.Clone(list)
			sort.Slice(want, func(i, j int) bool { return l.total(want[i], want[j]) < 0 })
			if got, e := Sort(l.form, list...); !slices.Equal(got, want) || e != api.OK {
				t.Errorf("Sort of format %d, %d of them: %v", l.form, size, e)
			}
		}
	})
}

// P16.3: a few at each edge.
func TestSortEdges(t *testing.T) {
	for _, l := range layouts {
		s := source(33 + l.w)
		want := l.edges()
		sort.Slice(want, func(i, j int) bool { return l.total(want[i], want[j]) < 0 })
		for range 20 {
			if got, e := Sort(l.form, s.shuffled(want)...); !slices.Equal(got, want) || e != api.OK {
				t.Errorf("Sort of format %d: %x, %v; wanted %x", l.form, got, e, want)
			}
		}
	}
}

// P16.3: of none, told by nil and by an empty list, and of one, whatever it is.
func TestSortOfFew(t *testing.T) {
	for _, l := range layouts {
		for _, none := range [][]api.Bits{nil, {}, make([]api.Bits, 0, 4)} {
			if got, e := Sort(l.form, none...); len(got) != 0 || e != api.OK {
				t.Errorf("Sort(%d): %x, %v", l.form, got, e)
			}
		}
		for _, b := range l.edges() {
			if got, e := Sort(l.form, b); !slices.Equal(got, []api.Bits{b}) || e != api.OK {
				t.Errorf("Sort(%d, %x): %x, %v", l.form, b, got, e)
			}
		}
	}
}

// P0.1: Sort leaves what is handed in as it was, spare room too, and answers memory of its own.
func TestSortMemory(t *testing.T) {
	for n := range 40 {
		for _, spare := range []int{0, 1, 7} {
			s := source(9 + n)
			whole := make([]api.Bits, n+spare)
			for i := range whole {
				whole[i] = layouts[0].any(&s)
			}
			before := slices.Clone(whole)
			got, e := Sort(api.Half, whole[:n]...)
			if e != api.OK || !slices.Equal(whole, before) {
				t.Fatalf("Sort of %d with %d more behind: %v, %x; they were %x", n, spare, e, whole, before)
			}
			again, _ := Sort(api.Half, whole[:n]...)
			kept := slices.Clone(again)
			for i := range got[:cap(got)] {
				got[:cap(got)][i] = api.Bits{Hi: 7}
			}
			if !slices.Equal(whole, before) || !slices.Equal(again, kept) {
				t.Fatalf("Sort of %d with %d more behind shares what it answered", n, spare)
			}
		}
	}
}

// P16.4: what follows of two, held by the calls against one another.
func TestLaws(t *testing.T) {
	eachForm(t, func(t *testing.T, l layout) {
		s := source(64 + l.w)
		for range 20000 {
			a := l.any(&s)
			b := l.near(&s, a)
			got, turned := of(l.form, a, b), of(l.form, b, a)
			if got.eq != turned.eq || got.min.flags != turned.min.flags || got.max.flags != turned.max.flags {
				t.Errorf("format %d, %x and %x: %+v; the other way round %+v", l.form, a, b, got, turned)
			}
			if got.le.is != (got.lt.is || got.eq.is) {
				t.Errorf("format %d, %x and %x: Le is not Lt or Eq: %+v", l.form, a, b, got)
			}
			if got.total != -turned.total || (got.total == 0) != (a == b) || got.total < -1 || got.total > 1 {
				t.Errorf("Total(%d, %x, %x): %d, the other way round %d", l.form, a, b, got.total, turned.total)
			}
			if l.isNaN(a) || l.isNaN(b) {
				continue
			}
			l.checkNumbers(t, a, b, got, turned)
		}
	})
}

// checkNumbers is P16.4 of two that are no NaNs.
func (l layout) checkNumbers(t *testing.T, a, b api.Bits, got, turned answers) {
	t.Helper()
	count := 0
	for _, is := range []bool{got.lt.is, got.eq.is, turned.lt.is} {
		if is {
			count++
		}
	}
	if count != 1 {
		t.Errorf("format %d, %x and %x: %d of Lt, Eq and Lt the other way round", l.form, a, b, count)
	}
	if got.relation != api.Equal && int(got.relation) != int(api.Equal)+got.total {
		t.Errorf("format %d, %x and %x: Compare %d, Total %d", l.form, a, b, got.relation, got.total)
	}
	sorted, _ := Sort(l.form, a, b)
	if !slices.Equal(sorted, []api.Bits{got.min.b, got.max.b}) || got.min != turned.min || got.max != turned.max {
		t.Errorf("format %d, %x and %x: Min %x, Max %x, Sort %x", l.form, a, b, got.min.b, got.max.b, sorted)
	}
}

// P16.4: Total is an order: what is ahead of one that is ahead of a third is ahead of that.
func TestTotalIsAnOrder(t *testing.T) {
	eachForm(t, func(t *testing.T, l layout) {
		s := source(4 + l.w)
		for range 20000 {
			a := l.any(&s)
			b := l.near(&s, a)
			c := l.near(&s, b)
			first, _ := Total(l.form, a, b)
			second, _ := Total(l.form, b, c)
			if third, _ := Total(l.form, a, c); first <= 0 && second <= 0 && third != min(first, second) {
				t.Errorf("Total of %x, %x and %x of format %d: %d, %d, %d", a, b, c, l.form, first, second, third)
			}
		}
	})
}

// nothing is what all calls of two answer where they may not be.
var nothing = answers{
	eq: truth{e: api.ErrArg}, lt: truth{e: api.ErrArg}, le: truth{e: api.ErrArg}, min: choice{e: api.ErrArg}, max: choice{e: api.ErrArg},
	faults: [2]api.Errno{api.ErrArg, api.ErrArg},
}

// P16.1 to P16.3: what is no format, whatever is beside it; of a list of none too.
func TestNoFormat(t *testing.T) {
	list := append(halves(0, 1, 0x3c00, 0x8000, 0x7c00, 0x7c01, 0x7e00), api.Bits{Hi: 1 << 63, Lo: 1})
	for f := 4; f < 256; f++ {
		form := api.Form(f)
		for _, a := range list {
			for _, b := range list {
				if got := of(form, a, b); got != nothing {
					t.Errorf("format %d, %x and %x: %+v", f, a, b, got)
				}
			}
			if got, e := Sort(form, a); len(got) != 0 || e != api.ErrArg {
				t.Errorf("Sort(%d, %x): %x, %v", f, a, got, e)
			}
		}
		if got, e := Sort(form); len(got) != 0 || e != api.ErrArg {
			t.Errorf("Sort(%d): %x, %v", f, got, e)
		}
		if got, e := Sort(form, list...); len(got) != 0 || e != api.ErrArg {
			t.Errorf("Sort(%d, %x): %x, %v", f, list, got, e)
		}
	}
}

// P16.1 to P16.3: bits that are no encoding, at each place above the width, on each side and at each place of a list, beside whatever is there.
func TestNoEncoding(t *testing.T) {
	t.Parallel()
	for _, l := range layouts[:3] {
		edges := l.edges()
		for place := l.w; place < 128; place++ {
			for i, b := range edges {
				n := whole(b)
				bad := layouts[3].bits(false, n.SetBit(n, place, 1))
				good := edges[(i+place)%len(edges)]
				for name, got := range map[string]answers{"a": of(l.form, bad, good), "b": of(l.form, good, bad), "both": of(l.form, bad, bad)} {
					if got != nothing {
						t.Fatalf("format %d, %x and %x, %s: %+v", l.form, bad, good, name, got)
					}
				}
				for size := range 4 {
					for at := range size {
						list := slices.Repeat([]api.Bits{good}, size)
						list[at] = bad
						if got, e := Sort(l.form, list...); len(got) != 0 || e != api.ErrArg {
							t.Fatalf("Sort(%d, %x): %x, %v", l.form, list, got, e)
						}
					}
				}
			}
		}
	}
}

// P0.1: whatever is handed in, an answer of its format, or ErrArg and nothing; a second time the same.
func TestWhatever(t *testing.T) {
	s := source(78)
	for range 40000 {
		f, l := api.Form(s.below(6)), layouts[s.below(4)]
		a, b := l.any(&s), l.any(&s)
		got := of(f, a, b)
		if again := of(f, a, b); again != got {
			t.Errorf("format %d, %x and %x: %+v, then %+v", f, a, b, got, again)
		}
		sorted, e := Sort(f, a, b)
		if f > 3 || !shape.Fits(f, a) || !shape.Fits(f, b) {
			if got != nothing || len(sorted) != 0 || e != api.ErrArg {
				t.Errorf("format %d, %x and %x: %+v, %x; wanted ErrArg", f, a, b, got, sorted)
			}
			continue
		}
		if got.faults != [2]api.Errno{} || !shape.Fits(f, got.min.b) || !shape.Fits(f, got.max.b) || len(sorted) != 2 || e != api.OK {
			t.Errorf("format %d, %x and %x: %+v, %x, %v", f, a, b, got, sorted, e)
		}
	}
}
