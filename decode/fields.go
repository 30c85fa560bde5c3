package decode

import "abacus/api"

// Where the fields of a word begin.
const (
	rdAt  = 7
	rmAt  = 12
	rs1At = 15
	rs2At = 20
	rs3At = 27
	topAt = 20 // the twelve highest bits: a Load's imm, a control register
)

// A Store's imm has its low five bits where rd stands elsewhere, and its high seven from highAt on.
const (
	highAt  = 25
	lowBits = 5
)

// five is the field of five bits that begins at that bit.
func five(w uint32, at int) uint8 { return uint8(w >> at & (1<<5 - 1)) }

func mode(w uint32) uint8 { return uint8(w >> rmAt & (1<<3 - 1)) }

// signed is what stands in w from that bit on, its highest bit the sign: a shift of a number with a sign brings it down.
func signed(w uint32, at int) int16 { return int16(int32(w) >> at) }

// reader puts into x the fields of its own that w has.
type reader func(w uint32, x *api.Inst)

// readers stand by Layout. (No word is of a row without one.)
func readers() [api.LayCsrI + 1]reader {
	return [...]reader{
		api.NoLayout: func(uint32, *api.Inst) {},
		api.LayLoad: func(w uint32, x *api.Inst) {
			x.Rd, x.Rs1 = five(w, rdAt), five(w, rs1At)
			x.Imm = signed(w, topAt)
		},
		api.LayStore: func(w uint32, x *api.Inst) {
			x.Rs1, x.Rs2 = five(w, rs1At), five(w, rs2At)
			x.Imm = signed(w, highAt)<<lowBits | int16(five(w, rdAt))
		},
		api.LayFour: func(w uint32, x *api.Inst) {
			x.Rd, x.Rs1, x.Rs2, x.Rs3 = five(w, rdAt), five(w, rs1At), five(w, rs2At), five(w, rs3At)
			x.Rm = mode(w)
		},
		api.LayThreeM: func(w uint32, x *api.Inst) {
			x.Rd, x.Rs1, x.Rs2 = five(w, rdAt), five(w, rs1At), five(w, rs2At)
			x.Rm = mode(w)
		},
		api.LayThree: func(w uint32, x *api.Inst) {
			x.Rd, x.Rs1, x.Rs2 = five(w, rdAt), five(w, rs1At), five(w, rs2At)
		},
		api.LayTwoM: func(w uint32, x *api.Inst) {
			x.Rd, x.Rs1 = five(w, rdAt), five(w, rs1At)
			x.Rm = mode(w)
		},
		api.LayTwo: func(w uint32, x *api.Inst) {
			x.Rd, x.Rs1 = five(w, rdAt), five(w, rs1At)
		},
		api.LayCsr:  readCsr,
		api.LayCsrI: readCsr,
	}
}

// readCsr serves both: a number stands where a register does.
func readCsr(w uint32, x *api.Inst) {
	x.Rd, x.Rs1 = five(w, rdAt), five(w, rs1At)
	x.Csr = uint8(w >> topAt)
}
