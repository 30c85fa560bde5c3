package encode

import "abacus/api"

// Where the fields of a word begin.
const (
	rdAt  = 7
	rmAt  = 12
	rs1At = 15
	rs2At = 20
	rs3At = 27
	topAt = 20 // the twelve highest bits: a Load's imm, a control register
)

// A Store's imm has its low five bits where rd stands elsewhere, and its high seven from highAt on.
const (
	highAt  = 25
	lowBits = 5
)

// five is what a field of five bits holds of n.
func five(n uint8) uint8 { return n & (1<<5 - 1) }

// mode is what the field rm holds of n.
func mode(n uint8) uint8 { return n & (1<<3 - 1) }

// signed is what twelve bits hold of n, the highest of them the sign: a shift of a number with a sign brings it down.
func signed(n int16) int16 { return n << 4 >> 4 }

// keeper is what of x the fields of a Layout hold, and nothing else of it.
type keeper func(x api.Inst) api.Inst

// keepers stand by Layout. (No row is without one.)
func keepers() [api.LayCsrI + 1]keeper {
	return [...]keeper{
		api.LayLoad: func(x api.Inst) api.Inst {
			return api.Inst{Rd: five(x.Rd), Rs1: five(x.Rs1), Imm: signed(x.Imm)}
		},
		api.LayStore: func(x api.Inst) api.Inst {
			return api.Inst{Rs1: five(x.Rs1), Rs2: five(x.Rs2), Imm: signed(x.Imm)}
		},
		api.LayFour: func(x api.Inst) api.Inst {
			return api.Inst{Rd: five(x.Rd), Rs1: five(x.Rs1), Rs2: five(x.Rs2), Rs3: five(x.Rs3), Rm: mode(x.Rm)}
		},
		api.LayThreeM: func(x api.Inst) api.Inst {
			return api.Inst{Rd: five(x.Rd), Rs1: five(x.Rs1), Rs2: five(x.Rs2), Rm: mode(x.Rm)}
		},
		api.LayThree: func(x api.Inst) api.Inst {
			return api.Inst{Rd: five(x.Rd), Rs1: five(x.Rs1), Rs2: five(x.Rs2)}
		},
		api.LayTwoM: func(x api.Inst) api.Inst {
			return api.Inst{Rd: five(x.Rd), Rs1: five(x.Rs1), Rm: mode(x.Rm)}
		},
		api.LayTwo: func(x api.Inst) api.Inst {
			return api.Inst{Rd: five(x.Rd), Rs1: five(x.Rs1)}
		},
		api.LayCsr:  keepCsr,
		api.LayCsrI: keepCsr,
	}
}

// keepCsr serves both: a number stands where a register does.
func keepCsr(x api.Inst) api.Inst {
	return api.Inst{Rd: five(x.Rd), Rs1: five(x.Rs1), Csr: x.Csr}
}

// held is x, but that of its own fields there is only what the Layout's hold.
func held(x api.Inst, l api.Layout) api.Inst {
	keep := keepers()[l]
	y := keep(x)
	y.Op, y.Form, y.From, y.Kind = x.Op, x.Form, x.From, x.Kind
	return y
}

// bits are x's own fields in their places, of a Layout that holds x. What the Layout has not is 0, and so turns nothing.
func bits(x api.Inst, l api.Layout) uint32 {
	w := immBits(x.Imm, l)
	w ^= uint32(x.Rd) << rdAt
	w ^= uint32(x.Rm) << rmAt
	w ^= uint32(x.Rs1) << rs1At
	w ^= uint32(x.Rs2) << rs2At
	w ^= uint32(x.Rs3) << rs3At
	w ^= uint32(x.Csr) << topAt
	return w
}

// immBits are the twelve bits of imm in their places.
func immBits(imm int16, l api.Layout) uint32 {
	n := uint32(imm)
	if l == api.LayStore {
		return n>>lowBits<<highAt ^ n&(1<<lowBits-1)<<rdAt
	}
	return n << topAt
}
