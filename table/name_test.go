package table

import (
	"strings"
	"testing"

	"abacus/api"
)

// P24.3 and P24.4: each row's name, and the row of each name; no two have the same.
func TestNames(t *testing.T) {
	seen := map[string]int{}
	for i, x := range model {
		if got := toCalled(Name(x.row)); got != (called{name: x.name}) {
			t.Errorf("Name(%+v): %v; wanted %s", x.row, got, x.name)
		}
		if got := toTold(Named(x.name)); got != (told{row: x.row}) {
			t.Errorf("Named(%s): %v; wanted %+v", x.name, got, x.row)
		}
		if j, is := seen[x.name]; is {
			t.Errorf("%d and %d are both %s", i, j, x.name)
		}
		seen[x.name] = i
	}
}

// P24.3, by hand: names of each kind, with what their rows are.
func TestNamesByHand(t *testing.T) {
	for name, want := range map[string]api.Row{
		"flw":       {Op: api.Load, Form: api.Single},
		"fld":       {Op: api.Load, Form: api.Double},
		"flh":       {Op: api.Load, Form: api.Half},
		"flq":       {Op: api.Load, Form: api.Quad},
		"fsw":       {Op: api.Store, Form: api.Single},
		"fsq":       {Op: api.Store, Form: api.Quad},
		"fmadd.s":   {Op: api.MulAdd, Form: api.Single},
		"fmsub.d":   {Op: api.MulSub, Form: api.Double},
		"fnmsub.h":  {Op: api.NegMulSub, Form: api.Half},
		"fnmadd.q":  {Op: api.NegMulAdd, Form: api.Quad},
		"fadd.d":    {Op: api.Add, Form: api.Double},
		"fsub.s":    {Op: api.Sub, Form: api.Single},
		"fmul.h":    {Op: api.Mul, Form: api.Half},
		"fdiv.q":    {Op: api.Div, Form: api.Quad},
		"fsqrt.h":   {Op: api.Sqrt, Form: api.Half},
		"fsgnj.s":   {Op: api.SignCopy, Form: api.Single},
		"fsgnjn.d":  {Op: api.SignNot, Form: api.Double},
		"fsgnjx.q":  {Op: api.SignXor, Form: api.Quad},
		"fmin.h":    {Op: api.Min, Form: api.Half},
		"fmax.s":    {Op: api.Max, Form: api.Single},
		"fcvt.s.h":  {Op: api.Convert, Form: api.Single, From: api.Half},
		"fcvt.h.s":  {Op: api.Convert, Form: api.Half, From: api.Single},
		"fcvt.q.d":  {Op: api.Convert, Form: api.Quad, From: api.Double},
		"feq.s":     {Op: api.Eq, Form: api.Single},
		"flt.d":     {Op: api.Lt, Form: api.Double},
		"fle.h":     {Op: api.Le, Form: api.Half},
		"fcvt.w.s":  {Op: api.ToInt, Form: api.Single, Kind: api.W},
		"fcvt.wu.q": {Op: api.ToInt, Form: api.Quad, Kind: api.WU},
		"fcvt.l.d":  {Op: api.ToInt, Form: api.Double, Kind: api.L},
		"fcvt.s.w":  {Op: api.FromInt, Form: api.Single, Kind: api.W},
		"fcvt.h.lu": {Op: api.FromInt, Form: api.Half, Kind: api.LU},
		"fmv.x.w":   {Op: api.ToWord, Form: api.Single},
		"fmv.x.h":   {Op: api.ToWord, Form: api.Half},
		"fclass.q":  {Op: api.Classify, Form: api.Quad},
		"fmv.w.x":   {Op: api.OfWord, Form: api.Single},
		"fmv.d.x":   {Op: api.OfWord, Form: api.Double},
		"csrrw":     {Op: api.CsrSwap},
		"csrrs":     {Op: api.CsrSet},
		"csrrc":     {Op: api.CsrClear},
		"csrrwi":    {Op: api.CsrSwapI},
		"csrrsi":    {Op: api.CsrSetI},
		"csrrci":    {Op: api.CsrClearI},
	} {
		r, e := Named(name)
		if got := toCalled(Name(r)); got != (called{name: name}) {
			t.Errorf("%s: named %v", name, got)
		}
		r.Mask, r.Match, r.Layout = 0, 0, 0
		if e != api.OK || r != want {
			t.Errorf("Named(%s): %+v, %v; wanted %+v", name, r, e, want)
		}
	}
}

// P24.3: what is no row by one field, or by one bit, has no name.
func TestNameOfNone(t *testing.T) {
	rows := map[api.Row]string{}
	for _, x := range model {
		rows[x.row] = x.name
	}
	held := func(r api.Row) {
		t.Helper()
		want := called{name: rows[r]}
		if want.name == "" {
			want.e = api.ErrRow
		}
		if got := toCalled(Name(r)); got != want {
			t.Errorf("Name(%+v): %v; wanted %v", r, got, want)
		}
	}
	held(api.Row{})
	for _, x := range model {
		for at := range 32 {
			r := x.row
			r.Mask ^= 1 << at
			held(r)
			r = x.row
			r.Match ^= 1 << at
			held(r)
		}
		for n := range 256 {
			r := x.row
			r.Op = api.Op(n)
			held(r)
			r = x.row
			r.Form = api.Form(n)
			held(r)
			r = x.row
			r.From = api.Form(n)
			held(r)
			r = x.row
			r.Kind = api.IntKind(n)
			held(r)
			r = x.row
			r.Layout = api.Layout(n)
			held(r)
		}
	}
}

// names are the model's rows by their names.
func names() map[string]api.Row {
	out := map[string]api.Row{}
	for _, x := range model {
		out[x.name] = x.row
	}
	return out
}

// P24.3: all texts of up to four of the letters that names have, and of marks for what differs.
func TestShortNames(t *testing.T) {
	all := names()
	const letters = "abcdefghijlmnqrstuvwx.FM"
	hits := 0
	var walk func(s string)
	walk = func(s string) {
		want := told{all[s], api.ErrRow}
		if want.row != (api.Row{}) {
			want.e = api.OK
			hits++
		}
		if got := toTold(Named(s)); got != want {
			t.Fatalf("Named(%q): %v; wanted %v", s, got, want)
		}
		if len(s) < 4 {
			for i := range letters {
				walk(s + letters[i:i+1])
			}
		}
	}
	walk("")
	if hits != 8 {
		t.Error("names of up to four letters:", hits)
	}
}

// P24.3: texts that are names but for one letter, in capitals, with something ahead or behind, or very long.
func TestNamedOfNone(t *testing.T) {
	all := names()
	held := func(s string) {
		t.Helper()
		want := told{all[s], api.ErrRow}
		if want.row != (api.Row{}) {
			want.e = api.OK
		}
		if got := toTold(Named(s)); got != want {
			t.Errorf("Named(%q): %v; wanted %v", s, got, want)
		}
	}
	const letters = "abcdefghijklmnopqrstuvwxyz.FGMKSDHQWLUX0 \x00\xff"
	for s := range all {
		held(strings.ToUpper(s))
		held(strings.ToUpper(s[:1]) + s[1:])
		held(s + s)
		held(s + strings.Repeat(s[len(s)-1:], 1<<16))
		for i := range len(s) + 1 {
			held(s[:i])
			held(s[i:])
			for j := range letters {
				held(s[:i] + letters[j:j+1] + s[i:])
				if i < len(s) {
					held(s[:i] + letters[j:j+1] + s[i+1:])
				}
			}
			if i < len(s) {
				held(s[:i] + s[i+1:])
			}
		}
	}
	for _, s := range []string{"", ".", "flM", "fmadd.F", "fadd.", "fadd", "fcvt.", "fcvt.F.G", "fcvt..", "fcvt.s.s", "fcvt.q.q", "fcvt.w.w", "fcvt.w.lu", "fmv.x.q", "fmv.q.x", "fmv.x.s", "fmv.s.x", "fmv.x.x", "flw.s", "fls", "fss", "csrrw.s", "csrrwii", "csrr", "csrw", "fsgnj", "fnmadd", "add.s", "fadd.s ", " fadd.s", "ſqrt.s", strings.Repeat("f", 1<<20)} {
		if _, is := all[s]; is {
			t.Errorf("%s is a name", s)
		}
		held(s)
	}
}
