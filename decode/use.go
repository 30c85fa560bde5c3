package decode

import "abacus/api"

// set is the set of one register.
func set(register uint8) uint32 { return 1 << register }

// useOf is what x reads and writes.
func useOf(x api.Inst) api.Use {
	rd, rs1, rs2, rs3 := set(x.Rd), set(x.Rs1), set(x.Rs2), set(x.Rs3)
	switch x.Op {
	case api.Load, api.FromInt, api.OfWord:
		return api.Use{ReadX: rs1, WriteF: rd}
	case api.Store:
		return api.Use{ReadX: rs1, ReadF: rs2}
	case api.MulAdd, api.MulSub, api.NegMulSub, api.NegMulAdd:
		return api.Use{ReadF: rs1 | rs2 | rs3, WriteF: rd}
	case api.Sqrt, api.Convert:
		return api.Use{ReadF: rs1, WriteF: rd}
	case api.Eq, api.Lt, api.Le:
		return api.Use{ReadF: rs1 | rs2, WriteX: rd}
	case api.ToInt, api.ToWord, api.Classify:
		return api.Use{ReadF: rs1, WriteX: rd}
	case api.CsrSwap, api.CsrSet, api.CsrClear:
		return api.Use{ReadX: rs1, WriteX: rd}
	case api.CsrSwapI, api.CsrSetI, api.CsrClearI:
		return api.Use{WriteX: rd}
	default: // sums, products, signs: two f registers, and one that is written
		return api.Use{ReadF: rs1 | rs2, WriteF: rd}
	}
}
