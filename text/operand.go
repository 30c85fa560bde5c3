package text

import "abacus/api"

// What stands between operands, and around the register of an address.
const (
	comma = "," + blank
	open  = "("
	shut  = ")"
)

// The bounds of imm, and of the number that stands where rs1 does elsewhere.
const (
	leastImm   = -1 << 11
	mostImm    = 1<<11 - 1
	mostNumber = 1<<5 - 1
)

// hand goes over operands from the front. Each of its functions is handed what the instruction has: one hand tells it and answers it, another takes what a text has and answers that. So both go one way.
type hand struct {
	sign     func(s string)
	register func(float bool, n uint8) uint8
	mode     func(rm uint8) uint8
	csr      func(n uint8) uint8
	number   func(n, least, most int) int
}

// operand goes over one operand of x.
type operand func(h hand, x *api.Inst)

// operands stand by Layout. (No row is without one.)
func operands() [api.LayCsrI + 1][]operand {
	return [...][]operand{
		api.LayLoad:   {rd, address},
		api.LayStore:  {rs2, address},
		api.LayFour:   {rd, rs1, rs2, rs3, mode},
		api.LayThreeM: {rd, rs1, rs2, mode},
		api.LayThree:  {rd, rs1, rs2},
		api.LayTwoM:   {rd, rs1, mode},
		api.LayTwo:    {rd, rs1},
		api.LayCsr:    {rd, csrName, rs1},
		api.LayCsrI:   {rd, csrName, number},
	}
}

// goOver goes over the operands of x, which is of that Layout.
func goOver(l api.Layout, h hand, x *api.Inst) {
	for i, next := range operands()[l] {
		if i > 0 {
			h.sign(comma)
		}
		next(h, x)
	}
}

func rd(h hand, x *api.Inst)  { x.Rd = h.register(!writesWord(x.Op), x.Rd) }
func rs1(h hand, x *api.Inst) { x.Rs1 = h.register(!readsWord(x.Op), x.Rs1) }
func rs2(h hand, x *api.Inst) { x.Rs2 = h.register(true, x.Rs2) }
func rs3(h hand, x *api.Inst) { x.Rs3 = h.register(true, x.Rs3) }

func mode(h hand, x *api.Inst)    { x.Rm = h.mode(x.Rm) }
func csrName(h hand, x *api.Inst) { x.Csr = h.csr(x.Csr) }
func number(h hand, x *api.Inst)  { x.Rs1 = uint8(h.number(int(x.Rs1), 0, mostNumber)) }

func address(h hand, x *api.Inst) {
	x.Imm = int16(h.number(int(x.Imm), leastImm, mostImm))
	h.sign(open)
	rs1(h, x)
	h.sign(shut)
}

// writesWord tells whether rd is an x register.
func writesWord(o api.Op) bool {
	switch o {
	case api.Eq, api.Lt, api.Le, api.ToInt, api.ToWord, api.Classify:
		return true
	default:
		return isCsr(o)
	}
}

// readsWord tells whether rs1 is an x register.
func readsWord(o api.Op) bool {
	switch o {
	case api.Load, api.Store, api.FromInt, api.OfWord:
		return true
	default:
		return isCsr(o)
	}
}

// isCsr tells whether o acts upon a control register. (Where a number stands for rs1 there is no register of either file.)
func isCsr(o api.Op) bool { return o >= api.CsrSwap && o <= api.CsrClearI }
