package table

import "abacus/api"

// plan is what the rows of an Op have in common. The capitals in its name stand for what differs; markedPart tells what each is.
type plan struct {
	name            string
	opcode, rs3, rm uint8
	layout          api.Layout
}

// plans stand by the numbers of their Ops; that of NoOp is none.
var plans = []plan{
	api.Load:      {"flM", 0x07, 0x00, 0, api.LayLoad},
	api.Store:     {"fsM", 0x27, 0x00, 0, api.LayStore},
	api.MulAdd:    {"fmadd.F", 0x43, 0x00, 0, api.LayFour},
	api.MulSub:    {"fmsub.F", 0x47, 0x00, 0, api.LayFour},
	api.NegMulSub: {"fnmsub.F", 0x4b, 0x00, 0, api.LayFour},
	api.NegMulAdd: {"fnmadd.F", 0x4f, 0x00, 0, api.LayFour},
	api.Add:       {"fadd.F", 0x53, 0x00, 0, api.LayThreeM},
	api.Sub:       {"fsub.F", 0x53, 0x01, 0, api.LayThreeM},
	api.Mul:       {"fmul.F", 0x53, 0x02, 0, api.LayThreeM},
	api.Div:       {"fdiv.F", 0x53, 0x03, 0, api.LayThreeM},
	api.Sqrt:      {"fsqrt.F", 0x53, 0x0b, 0, api.LayTwoM},
	api.SignCopy:  {"fsgnj.F", 0x53, 0x04, 0, api.LayThree},
	api.SignNot:   {"fsgnjn.F", 0x53, 0x04, 1, api.LayThree},
	api.SignXor:   {"fsgnjx.F", 0x53, 0x04, 2, api.LayThree},
	api.Min:       {"fmin.F", 0x53, 0x05, 0, api.LayThree},
	api.Max:       {"fmax.F", 0x53, 0x05, 1, api.LayThree},
	api.Convert:   {"fcvt.F.G", 0x53, 0x08, 0, api.LayTwoM},
	api.Eq:        {"feq.F", 0x53, 0x14, 2, api.LayThree},
	api.Lt:        {"flt.F", 0x53, 0x14, 1, api.LayThree},
	api.Le:        {"fle.F", 0x53, 0x14, 0, api.LayThree},
	api.ToInt:     {"fcvt.K.F", 0x53, 0x18, 0, api.LayTwoM},
	api.FromInt:   {"fcvt.F.K", 0x53, 0x1a, 0, api.LayTwoM},
	api.ToWord:    {"fmv.x.M", 0x53, 0x1c, 0, api.LayTwo},
	api.Classify:  {"fclass.F", 0x53, 0x1c, 1, api.LayTwo},
	api.OfWord:    {"fmv.M.x", 0x53, 0x1e, 0, api.LayTwo},
	api.CsrSwap:   {"csrrw", 0x73, 0x00, 1, api.LayCsr},
	api.CsrSet:    {"csrrs", 0x73, 0x00, 2, api.LayCsr},
	api.CsrClear:  {"csrrc", 0x73, 0x00, 3, api.LayCsr},
	api.CsrSwapI:  {"csrrwi", 0x73, 0x00, 5, api.LayCsrI},
	api.CsrSetI:   {"csrrsi", 0x73, 0x00, 6, api.LayCsrI},
	api.CsrClearI: {"csrrci", 0x73, 0x00, 7, api.LayCsrI},
}

// planOf is o's plan; of what is no Op it is none.
func planOf(o api.Op) plan {
	if int(o) >= len(plans) {
		return plan{}
	}
	return plans[o]
}

// counts are of how many Forms, Froms and Kinds there are rows of o, those with the lowest numbers.
func counts(o api.Op) (forms, froms api.Form, kinds api.IntKind) {
	const eachForm, notQuad, eachKind = api.Quad + 1, api.Quad, api.LU + 1
	switch planOf(o).layout {
	case api.NoLayout:
		return 0, 0, 0
	case api.LayCsr, api.LayCsrI:
		return 1, 1, 1
	}
	switch o {
	case api.ToWord, api.OfWord:
		return notQuad, 1, 1
	case api.Convert:
		return eachForm, eachForm, 1
	case api.ToInt, api.FromInt:
		return eachForm, 1, eachKind
	default:
		return eachForm, 1, 1
	}
}

// widths is what stands as rm where memory is loaded or stored, by the format's number.
var widths = [...]uint8{api.Single: 2, api.Double: 3, api.Half: 1, api.Quad: 4}

// isMemory tells whether the plan's rows load or store.
func (p plan) isMemory() bool { return p.layout == api.LayLoad || p.layout == api.LayStore }

// rmOf is what stands as rm in the rows of the format f.
func (p plan) rmOf(f api.Form) uint8 {
	if p.isMemory() {
		return widths[f]
	}
	return p.rm
}

// row is the plan's row with these four.
func (p plan) row(o api.Op, f, from api.Form, k api.IntKind) api.Row {
	all := fields{
		opcode: p.opcode,
		rm:     p.rmOf(f),
		rs2:    uint8(from) | uint8(k), // no row has both
		form:   uint8(f),
		rs3:    p.rs3,
	}
	mask := fixed[p.layout]
	// A format stands in the bits of fmt only where these are fixed.
	return api.Row{Op: o, Form: f, From: from, Kind: k, Mask: mask, Match: all.word() & mask, Layout: p.layout}
}

// leads tells whether w could be of the plan's rows: by the opcode, and by rs3 and rm, where these are fixed and the same in all of them.
func (p plan) leads(w uint32) bool {
	if cut(w).opcode != p.opcode {
		return false
	}
	f := cut(w & fixed[p.layout])
	return f.rs3 == p.rs3 && (f.rm == p.rm || p.isMemory())
}

// byFields are the rows of o by what is fixed in their words.
func byFields(o api.Op) map[fields]api.Row {
	forms, froms, kinds := counts(o)
	rows := make(map[fields]api.Row, int(forms)*int(froms)*int(kinds))
	for row := range Each(o) {
		rows[cut(row.Match)] = row
	}
	return rows
}
