package table

import "abacus/api"

// Where the fields of a word begin; the opcode begins at 0.
const (
	rmShift   = 12
	rs2Shift  = 20
	formShift = 25
	rs3Shift  = 27
)

// Which bits the fields have.
const (
	opcodeBits = 1<<7 - 1
	rmBits     = (1<<3 - 1) << rmShift
	rs2Bits    = (1<<5 - 1) << rs2Shift
	formBits   = (1<<2 - 1) << formShift
	rs3Bits    = (1<<5 - 1) << rs3Shift
)

// fields are those of a word by which rows are told apart.
type fields struct {
	opcode, rm, rs2, form, rs3 uint8
}

func cut(w uint32) fields {
	return fields{
		opcode: uint8(w & opcodeBits),
		rm:     uint8(w & rmBits >> rmShift),
		rs2:    uint8(w & rs2Bits >> rs2Shift),
		form:   uint8(w & formBits >> formShift),
		rs3:    uint8(w & rs3Bits >> rs3Shift),
	}
}

// word is the word that has these fields, and 0 in the others.
func (f fields) word() uint32 {
	return uint32(f.opcode) | uint32(f.rm)<<rmShift | uint32(f.rs2)<<rs2Shift | uint32(f.form)<<formShift | uint32(f.rs3)<<rs3Shift
}

// fixed is, by Layout, what no field of an instruction's own takes.
var fixed = [...]uint32{
	api.LayLoad:   opcodeBits | rmBits,
	api.LayStore:  opcodeBits | rmBits,
	api.LayFour:   opcodeBits | formBits,
	api.LayThreeM: opcodeBits | formBits | rs3Bits,
	api.LayThree:  opcodeBits | formBits | rs3Bits | rmBits,
	api.LayTwoM:   opcodeBits | formBits | rs3Bits | rs2Bits,
	api.LayTwo:    opcodeBits | formBits | rs3Bits | rs2Bits | rmBits,
	api.LayCsr:    opcodeBits | rmBits,
	api.LayCsrI:   opcodeBits | rmBits,
}
