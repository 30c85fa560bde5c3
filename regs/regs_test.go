package regs

import (
	"fmt"
	"slices"
	"strings"
	"testing"

	"abacus/api"
)

// The chapter's examples.
func TestExamples(t *testing.T) {
	r := New()
	one := got{b: api.Bits{Lo: 7}}
	if r.SetX(0, 7) != api.OK || wordToGot(r.X(0)) != (got{}) || r.SetX(5, 7) != api.OK || wordToGot(r.X(5)) != one {
		t.Error("x0 and x5")
	}
	if wordToGot(r.X(32)) != (got{e: api.ErrArg}) || r.SetX(-1, 0) != api.ErrArg {
		t.Error("x32 and x-1")
	}
	half, boxed := bits("3c00"), bits("ffffffffffffffffffffffffffff3c00")
	if r.Put(api.Half, 3, half) != api.OK || toGot(r.Get(api.Half, 3)) != (got{b: half}) || toGot(r.F(3)) != (got{b: boxed}) {
		t.Error("f3 that was put")
	}
	if r.SetF(3, half) != api.OK || toGot(r.Get(api.Half, 3)) != (got{b: bits("7e00")}) || toGot(r.Low(api.Half, 3)) != (got{b: half}) {
		t.Error("f3 that was set")
	}
	l, e := Changed(New(), r)
	if e != api.OK || !slices.Equal(l, []api.Change{{N: 5, Word: 7}, {Float: true, N: 3, Bits: half}}) {
		t.Error("Changed:", l, e)
	}
	q := New()
	if q.Change(api.Change{Word: 9}) != api.OK || wordToGot(q.X(0)) != (got{}) {
		t.Error("x0 to 9")
	}
	if q.Change(api.Change{N: 1, Word: 1}, api.Change{N: 32, Word: 1}) != api.ErrArg || wordToGot(q.X(1)) != (got{}) {
		t.Error("x1 and x32 to 1")
	}
	if name, e := Name(true, 31); name != "f31" || e != api.OK {
		t.Error("Name:", name, e)
	}
	for s, want := range map[string]named{"f31": {true, 31, api.OK}, "f032": {e: api.ErrName}, "x32": {e: api.ErrName}, "X1": {e: api.ErrName}} {
		if got := toNamed(Named(s)); got != want {
			t.Errorf("Named(%s): %v", s, got)
		}
	}
}

// P23.1: all registers have 0, and each New has its own.
func TestNew(t *testing.T) {
	a, b := New(), New()
	holds(t, "New", a, model{})
	a.SetX(3, 1)
	a.SetF(3, bits("1"))
	holds(t, "another New", b, model{})
}

// P23.1: registers with what plain data says, each register alone and all of them; x0 counts for nothing there.
func TestFrom(t *testing.T) {
	x := full()
	r := From(x)
	want := modelOf(x)
	holds(t, "From(full)", r, want)
	x.X[7], x.F[7] = 0, api.Bits{}
	y := r.Tell()
	y.X[8], y.F[8] = 0, api.Bits{}
	holds(t, "behind writing over what was handed in and told", r, want)
	for n := range 32 {
		var x, f api.Regs
		x.X[n] = full().X[n]
		f.F[n] = full().F[n]
		holds(t, "From with one x register", From(x), modelOf(x))
		holds(t, "From with one f register", From(f), modelOf(f))
	}
}

// P23.1: a copy has the same, and is another one: what is written to the one is not in the other.
func TestCopy(t *testing.T) {
	want := modelOf(full())
	for n := range 32 {
		r := From(full())
		c := r.Copy()
		holds(t, "Copy", c, want)
		c.SetX(n, 1)
		c.SetF(n, bits("1"))
		holds(t, "behind writing to its copy", r, want)
		c = r.Copy()
		r.Change(api.Change{N: n, Word: 1}, api.Change{Float: true, N: n, Bits: bits("1")})
		holds(t, "behind writing to what it is a copy of", c, want)
	}
	if (*Regs)(nil).Copy() != nil || new(Regs).Copy() != nil {
		t.Error("a copy of nothing")
	}
}

// P23.1: each bit of each register counts, but x0's; who made them, and how, does not.
func TestSame(t *testing.T) {
	same := func(name string, a, b *Regs, want bool) {
		t.Helper()
		if Same(a, b) != want || Same(b, a) != want {
			t.Errorf("Same of %s is not %v", name, want)
		}
	}
	a, zero := From(full()), new(Regs)
	same("one", a, a, true)
	same("two", a, From(full()), true)
	same("a copy", a, a.Copy(), true)
	same("New and full", New(), a, false)
	same("two New", New(), New(), true)
	same("nil and nil", nil, nil, false)
	same("nil and New", nil, New(), false)
	same("zero and zero", zero, zero, false)
	same("zero and another zero", zero, new(Regs), false)
	same("zero and nil", zero, nil, false)
	same("zero and New", zero, New(), false)
	x := full()
	for n := range 32 {
		for k := range 128 {
			b := From(x)
			one := place(k)
			b.SetF(n, api.Bits{Hi: x.F[n].Hi ^ one.Hi, Lo: x.F[n].Lo ^ one.Lo})
			same("f registers", a, b, false)
			b = From(x)
			b.SetX(n, x.X[n]^one.Lo)
			same("x registers", a, b, n == 0 || one.Lo == 0)
		}
	}
	x.X[0]++
	same("what was made of another x0", a, From(x), true)
}

// P23.2: a register has what it was set to, all others what they had; x0 has 0.
func TestSet(t *testing.T) {
	for n := range 32 {
		for _, b := range patterns() {
			r, want := From(full()), modelOf(full())
			want.setX(n, b.Lo)
			if e := r.SetX(n, b.Lo); e != api.OK || told(t, r) != want {
				t.Errorf("SetX(%d, %x): %v", n, b.Lo, e)
			}
			want.F[n] = b
			if e := r.SetF(n, b); e != api.OK || told(t, r) != want {
				t.Errorf("SetF(%d, %s): %v", n, text(b), e)
			}
		}
	}
}

// P23.3: Get and Low read what the f register has by the format, and write nothing.
func TestGetAndLow(t *testing.T) {
	for n := range 32 {
		for _, b := range patterns() {
			x := full()
			x.F[n] = b
			r := From(x)
			for _, f := range formats {
				want := got{b: bits(unboxed(text(b), f.digits, f.nan))}
				if g := toGot(r.Get(f.f, n)); g != want {
					t.Errorf("Get(%d, %d) of %s: %v; wanted %v", f.f, n, text(b), g, want)
				}
				want = got{b: bits(text(b)[32-f.digits:])}
				if g := toGot(r.Low(f.f, n)); g != want {
					t.Errorf("Low(%d, %d) of %s: %v; wanted %v", f.f, n, text(b), g, want)
				}
			}
			if !Same(r, From(x)) {
				t.Errorf("reading f%d of %s wrote something", n, text(b))
			}
		}
	}
}

// P23.3 and P23.6: what is put stands with ones above, is got again, and no other register is another; of what is no encoding nothing is written.
func TestPut(t *testing.T) {
	for n := range 32 {
		for _, f := range formats {
			for _, b := range patterns() {
				r, want := From(full()), modelOf(full())
				low := text(b)[32-f.digits:]
				if bits(low) != b {
					if e := r.Put(f.f, n, b); e != api.ErrArg {
						t.Errorf("Put(%d, %d, %s): %v", f.f, n, text(b), e)
					}
					holds(t, "behind a Put of no encoding", r, want)
				}
				want.F[n] = bits(filled(low))
				if e := r.Put(f.f, n, bits(low)); e != api.OK || told(t, r) != want {
					t.Errorf("Put(%d, %d, %s): %v", f.f, n, low, e)
				}
				if g := toGot(r.Get(f.f, n)); g != (got{b: bits(low)}) {
					t.Errorf("Get(%d, %d) of %s that was put: %v", f.f, n, low, g)
				}
			}
		}
	}
}

// P23.3: one bit above a format's width is enough to be no encoding of it.
func TestPutBeyond(t *testing.T) {
	for _, f := range formats {
		for k := 4 * f.digits; k < 128; k++ {
			r := From(full())
			for _, b := range []api.Bits{place(k), joined(place(k), bits("3c00"))} {
				if e := r.Put(f.f, 4, b); e != api.ErrArg {
					t.Errorf("Put(%d, 4, %s): %v", f.f, text(b), e)
				}
			}
			holds(t, "behind a Put of no encoding", r, modelOf(full()))
		}
	}
}

// P23.4: just the registers that are another, x registers first, rising, with what the second one has.
func TestChanged(t *testing.T) {
	a, b := From(full()), New()
	sets := []api.Regs{{}, full(), a.Tell()}
	for n := range 32 {
		x := full()
		x.X[n]++
		sets = append(sets, x)
		x = full()
		x.F[n].Hi++
		sets = append(sets, x)
		x = full()
		x.F[n].Lo++
		x.X[31-n] = 0
		sets = append(sets, x)
	}
	for _, x := range sets {
		for _, y := range sets {
			a, b = From(x), From(y)
			l, e := Changed(a, b)
			if want := changes(modelOf(x), modelOf(y)); e != api.OK || !slices.Equal(l, want) {
				t.Errorf("Changed: %v, %v; wanted %v", l, e, want)
			}
			if !Same(a, From(x)) || !Same(b, From(y)) {
				t.Error("Changed wrote something")
			}
		}
	}
}

// P23.4: ErrNil, if either is not there; there is nothing to tell of one and itself.
func TestChangedOfNone(t *testing.T) {
	r, zero := From(full()), new(Regs)
	for _, c := range [][2]*Regs{{nil, nil}, {nil, r}, {r, nil}, {zero, r}, {r, zero}, {zero, zero}, {zero, nil}, {nil, zero}} {
		if l, e := Changed(c[0], c[1]); len(l) != 0 || e != api.ErrNil {
			t.Errorf("Changed(%v): %v, %v", c, l, e)
		}
	}
	if l, e := Changed(r, r); len(l) != 0 || e != api.OK {
		t.Errorf("Changed of one and itself: %v, %v", l, e)
	}
}

// P0.1: the changes that are told are new each time: they may be written over, spare room too.
func TestChangedIsNew(t *testing.T) {
	a, b := New(), From(full())
	want := changes(model{}, modelOf(full()))
	for range 3 {
		l, _ := Changed(a, b)
		if !slices.Equal(l, want) {
			t.Fatalf("Changed: %v; wanted %v", l, want)
		}
		l = l[:cap(l)]
		for i := range l {
			l[i] = api.Change{Float: true, N: 9, Word: 9, Bits: bits("9")}
		}
	}
	holds(t, "the first one", a, model{})
	holds(t, "the second one", b, modelOf(full()))
}

// P23.4: one change a register, of each; of several of one register the last one is what it has.
func TestChange(t *testing.T) {
	for n := range 32 {
		r, want := From(full()), modelOf(full())
		want.setX(n, 5)
		if e := r.Change(api.Change{N: n, Word: 5}); e != api.OK || told(t, r) != want {
			t.Errorf("Change of x%d: %v", n, e)
		}
		want.F[n] = api.Bits{Hi: 1, Lo: 2}
		if e := r.Change(api.Change{Float: true, N: n, Bits: api.Bits{Hi: 1, Lo: 2}}); e != api.OK || told(t, r) != want {
			t.Errorf("Change of f%d: %v", n, e)
		}
		want.setX(n, 0)
		want.F[n] = api.Bits{}
		if e := r.Change(api.Change{N: n}, api.Change{Float: true, N: n}); e != api.OK || told(t, r) != want {
			t.Errorf("Change of x%d and f%d to 0: %v", n, n, e)
		}
		want.setX(n, 3)
		want.F[n] = bits("4")
		want.setX(9, 9)
		l := []api.Change{{N: n, Word: 1}, {Float: true, N: n, Bits: bits("f")}, {N: n, Word: 3}, {Float: true, N: n, Bits: bits("4")}, {N: 9, Word: 9}}
		if e := r.Change(l...); e != api.OK || told(t, r) != want {
			t.Errorf("Change twice of x%d and f%d: %v", n, n, e)
		}
	}
	r := From(full())
	if e := r.Change(); e != api.OK {
		t.Error("Change to nothing:", e)
	}
	if e := r.Change([]api.Change{}...); e != api.OK {
		t.Error("Change by an empty list:", e)
	}
	holds(t, "behind a Change to nothing", r, modelOf(full()))
}

// wrongChanges are those that name no register, or have the field of the other file not zero.
func wrongChanges() []api.Change {
	out := []api.Change{{N: 3, Bits: bits("1")}, {N: 3, Word: 1, Bits: api.Bits{Hi: 1}}, {Bits: bits("1")}, {Float: true, N: 3, Word: 1}, {Float: true, N: 3, Word: 1 << 63, Bits: bits("1")}, {Float: true, Word: 1}}
	for k := range 128 {
		out = append(out, api.Change{N: 7, Bits: place(k)})
		if k < 64 {
			out = append(out, api.Change{Float: true, N: 7, Word: 1 << k})
		}
	}
	for _, n := range noRegisters() {
		out = append(out, api.Change{N: n}, api.Change{N: n, Word: 1}, api.Change{Float: true, N: n}, api.Change{Float: true, N: n, Bits: bits("1")}, api.Change{N: n, Bits: bits("1")})
	}
	return out
}

// P23.4: one change that may not be is enough, wherever it stands: nothing is written then.
func TestChangeWrong(t *testing.T) {
	right := []api.Change{{N: 1, Word: 1}, {Float: true, N: 2, Bits: bits("2")}, {N: 31, Word: 3}}
	for _, c := range wrongChanges() {
		for at := range len(right) + 1 {
			r := From(full())
			if e := r.Change(slices.Insert(slices.Clone(right), at, c)...); e != api.ErrArg {
				t.Errorf("Change with %v: %v", c, e)
			}
			if !Same(r, From(full())) {
				t.Errorf("Change with %v at %d wrote something", c, at)
			}
		}
	}
}

// P0.1: a list that is handed in is not changed, behind its end neither, and not kept.
func TestChangeKeepsNothing(t *testing.T) {
	l := make([]api.Change, 0, 4)
	l = append(l, api.Change{N: 1, Word: 1}, api.Change{Float: true, N: 2, Bits: bits("2")}, api.Change{Word: 7}, api.Change{N: 4, Word: 4})
	before := slices.Clone(l)
	r, want := New(), model{}
	want.setX(1, 1)
	want.F[2] = bits("2")
	if e := r.Change(l[:3]...); e != api.OK || !slices.Equal(l, before) {
		t.Errorf("Change: %v; the list is %v", e, l)
	}
	for i := range l {
		l[i] = api.Change{N: i, Word: 99}
	}
	holds(t, "behind writing over the list", r, want)
}

// P23.2 to P23.4: numbers of no register are answered by ErrArg and zeros; nothing is written.
func TestNoRegister(t *testing.T) {
	for _, n := range noRegisters() {
		r := From(full())
		reads := map[string]got{"X": wordToGot(r.X(n)), "F": toGot(r.F(n))}
		writes := map[string]api.Errno{"SetX": r.SetX(n, 1), "SetX 0": r.SetX(n, 0), "SetF": r.SetF(n, bits("1")), "SetF 0": r.SetF(n, api.Bits{})}
		for _, f := range formats {
			reads[fmt.Sprint("Get ", f.f)] = toGot(r.Get(f.f, n))
			reads[fmt.Sprint("Low ", f.f)] = toGot(r.Low(f.f, n))
			writes[fmt.Sprint("Put ", f.f)] = r.Put(f.f, n, bits("1"))
		}
		allWrong(t, fmt.Sprint("register ", n), api.ErrArg, reads, writes)
		holds(t, fmt.Sprint("behind calls of the register ", n), r, modelOf(full()))
	}
}

// P23.3: numbers of no format are answered by ErrArg and zeros, in registers of all kinds; nothing is written.
func TestNoFormat(t *testing.T) {
	x := full()
	x.F[1], x.F[2], x.F[3] = api.Bits{}, bits(filled("")), bits(filled("3c00"))
	for _, f := range noFormats() {
		r := From(x)
		for _, n := range []int{0, 1, 2, 3, 31, 32, -1} {
			reads := map[string]got{"Get": toGot(r.Get(f, n)), "Low": toGot(r.Low(f, n))}
			writes := map[string]api.Errno{"Put": r.Put(f, n, bits("3c00")), "Put 0": r.Put(f, n, api.Bits{})}
			allWrong(t, fmt.Sprint("format ", f, " register ", n), api.ErrArg, reads, writes)
		}
		holds(t, fmt.Sprint("behind calls of the format ", f), r, modelOf(x))
	}
}

// allWrong fails, if one of them answered another thing than e.
func allWrong(t *testing.T, name string, e api.Errno, reads map[string]got, writes map[string]api.Errno) {
	t.Helper()
	for call, g := range reads {
		if g != (got{e: e}) {
			t.Errorf("%s: %s: %v", name, call, g)
		}
	}
	for call, g := range writes {
		if g != e {
			t.Errorf("%s: %s: %v", name, call, g)
		}
	}
}

// P0.1: methods of a nil object, and of a zero object, answer ErrNil ahead of all else, and zeros; a zero object stays one.
func TestNoObject(t *testing.T) {
	for name, r := range map[string]*Regs{"nil": nil, "zero": {}} {
		for _, n := range []int{0, 1, 31, 32, -1} {
			for _, f := range []api.Form{api.Half, api.Single, api.Double, api.Quad, 4, 255} {
				reads := map[string]got{"X": wordToGot(r.X(n)), "F": toGot(r.F(n)), "Get": toGot(r.Get(f, n)), "Low": toGot(r.Low(f, n))}
				writes := map[string]api.Errno{
					"SetX":         r.SetX(n, 1),
					"SetF":         r.SetF(n, bits("1")),
					"Put":          r.Put(f, n, bits("1")),
					"Put beyond":   r.Put(f, n, bits(filled("3c00"))),
					"Change":       r.Change(api.Change{N: n, Word: 1}),
					"Change float": r.Change(api.Change{Float: true, N: n, Bits: bits("1")}),
					"Change wrong": r.Change(api.Change{N: n, Word: 1, Bits: bits("1")}),
					"Change to no": r.Change(),
				}
				allWrong(t, name, api.ErrNil, reads, writes)
			}
		}
		if r.Tell() != (api.Regs{}) || r.Copy() != nil || Same(r, r) || Same(r, New()) {
			t.Errorf("%s: it tells something", name)
		}
	}
}

// named is what Named answers.
type named struct {
	float bool
	n     int
	e     api.Errno
}

func toNamed(float bool, n int, e api.Errno) named { return named{float, n, e} }

// names are all registers' names.
func names() map[string]named {
	out := map[string]named{}
	for n := range 32 {
		out[fmt.Sprintf("x%d", n)], out[fmt.Sprintf("f%d", n)] = named{n: n}, named{float: true, n: n}
	}
	return out
}

// P23.5 and P23.6: names, there and back; no register has none.
func TestName(t *testing.T) {
	for want, c := range names() {
		s, e := Name(c.float, c.n)
		if s != want || e != api.OK {
			t.Errorf("Name(%v, %d): %s, %v; wanted %s", c.float, c.n, s, e, want)
		}
		if got := toNamed(Named(s)); got != c {
			t.Errorf("Named(%s): %v; wanted %v", s, got, c)
		}
	}
	for _, n := range noRegisters() {
		for _, float := range []bool{false, true} {
			if s, e := Name(float, n); s != "" || e != api.ErrArg {
				t.Errorf("Name(%v, %d): %s, %v", float, n, s, e)
			}
		}
	}
}

// P23.5: of all short texts just the names are some register's.
func TestNamedShort(t *testing.T) {
	const letters = "xfXF0123459+-_ .\x00"
	texts := []string{""}
	for from := 0; len(texts[from]) < 4; from++ {
		for _, c := range letters {
			texts = append(texts, texts[from]+string(c))
		}
	}
	known := names()
	for _, s := range texts {
		want, ok := known[s]
		if !ok {
			want = named{e: api.ErrName}
		}
		if got := toNamed(Named(s)); got != want {
			t.Errorf("Named(%q): %v; wanted %v", s, got, want)
		}
	}
}

// P23.5: texts that come near a name, and long ones.
func TestNamedWrong(t *testing.T) {
	near := []string{"x00000", "f-0", "x0x5", "x1_0", "x4294967296", "x4294967297", "f18446744073709551616", "f18446744073709551617", "x-9223372036854775808", "x9223372036854775808", "x1e0", "x5.0", "xfive", "٣", "x٣", "f１", "x\xff", "\xff1", "ｘ1", "x²", "ft0", "fa0", "a0", "zero", "ra", "sp", "fcsr", "pc", strings.Repeat("x", 1<<16), "x" + strings.Repeat("0", 1<<16) + "1", "f" + strings.Repeat("9", 1<<16), strings.Repeat("x1", 1<<16)}
	for s := range names() {
		near = append(near, s+"0 ", " "+s, s+" ", s+"\n", "\t"+s, s+"\x00", strings.ToUpper(s), s+s, "x"+s, "f"+s, s[1:], s[:1]+" "+s[1:], s[:1]+"0"+s[1:], s[:1]+"+"+s[1:], s[:1]+"-"+s[1:], s[:1]+"0x"+s[1:], s[1:]+s[:1])
	}
	for _, s := range near {
		if got := toNamed(Named(s)); got != (named{e: api.ErrName}) {
			t.Errorf("Named(%.40q): %v", s, got)
		}
	}
}

// P23.6: Change of Changed makes of a copy of the one the other; From of Tell is the same.
func TestThereAndBack(t *testing.T) {
	s := source(236)
	for range 200 {
		x := full()
		y := x
		for range s.below(40) {
			y.X[s.below(32)] = s.next() >> s.below(64)
			y.F[s.below(32)] = api.Bits{Hi: s.next() >> s.below(64), Lo: s.next() >> s.below(64)}
		}
		a, b := From(x), From(y)
		c := a.Copy()
		l, e := Changed(a, b)
		if e != api.OK || c.Change(l...) != api.OK || !Same(c, b) {
			t.Errorf("Change of Changed: %v", l)
		}
		if !Same(a, From(x)) || !Same(From(b.Tell()), b) {
			t.Error("From of Tell, or what was copied, is another")
		}
	}
}

// P23.1 to P23.6: some registers and copies of them go through many calls with the model beside them.
func TestModel(t *testing.T) {
	s := source(2306)
	all := patterns()
	rs := []*Regs{New(), From(full()), New()}
	ms := []model{model{}, modelOf(full()), model{}}
	for range 20000 {
		i, j, n := s.below(len(rs)), s.below(len(rs)), s.below(32)
		b, f := all[s.below(len(all))], formats[s.below(len(formats))]
		low := text(b)[32-f.digits:]
		r, m := rs[i], &ms[i]
		switch s.below(8) {
		case 0, 1:
			r.SetX(n, b.Lo)
			m.setX(n, b.Lo)
		case 2:
			r.SetF(n, b)
			m.F[n] = b
		case 3, 4:
			r.Put(f.f, n, bits(low))
			m.F[n] = bits(filled(low))
		case 5:
			if s.below(20) == 0 {
				rs[j], ms[j] = r.Copy(), *m
			}
		case 6:
			if l, _ := Changed(r, rs[j]); !slices.Equal(l, changes(*m, ms[j])) || Same(r, rs[j]) != (len(l) == 0) {
				t.Fatalf("Changed: %v; wanted %v", l, changes(*m, ms[j]))
			}
		case 7:
			r.Change(api.Change{N: n, Word: b.Lo}, api.Change{Float: true, N: 31 - n, Bits: b})
			m.setX(n, b.Lo)
			m.F[31-n] = b
		}
		want := got{b: bits(unboxed(text(m.F[n]), f.digits, f.nan))}
		if g := toGot(r.Get(f.f, n)); g != want {
			t.Fatalf("Get(%d, %d): %v; wanted %v", f.f, n, g, want)
		}
		if told(t, r) != *m {
			t.Fatal("the registers have another thing than the model")
		}
	}
}
