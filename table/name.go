package table

import "abacus/api"

// The letters of the formats by their numbers: by their own names, and by what is moved to and from memory and x registers.
const (
	formLetters = "sdhq"
	moveLetters = "wdhq"
)

// kindNames stand by the kinds' numbers.
var kindNames = [...]string{api.W: "w", api.WU: "wu", api.L: "l", api.LU: "lu"}

// isMark tells whether c, in a plan's name, stands for something else.
func isMark(c byte) bool { return c >= 'A' && c <= 'Z' }

// markedPart is what c stands for in the name of the row r.
func markedPart(c byte, r api.Row) string {
	switch c {
	case 'F':
		return formLetters[r.Form : r.Form+1]
	case 'G':
		return formLetters[r.From : r.From+1]
	case 'M':
		return moveLetters[r.Form : r.Form+1]
	default: // K
		return kindNames[r.Kind]
	}
}

// nameOf is the name of r, which is one of the rows.
func nameOf(r api.Row) string {
	var name []byte
	for _, c := range []byte(planOf(r.Op).name) {
		if isMark(c) {
			name = append(name, markedPart(c, r)...)
		} else {
			name = append(name, c)
		}
	}
	return string(name)
}

// hasHead tells whether s begins as all names of the plan do.
func (p plan) hasHead(s string) bool {
	for i, c := range []byte(p.name) {
		if isMark(c) {
			return true
		}
		if i >= len(s) || s[i] != c {
			return false
		}
	}
	return true
}

// Name is the name of the row r.
func Name(r api.Row) (string, api.Errno) {
	own, e := Of(r.Op, r.Form, r.From, r.Kind)
	if e != api.OK || own != r {
		return "", api.ErrRow
	}
	return nameOf(r), api.OK
}

// Named is the row whose Name is s.
func Named(s string) (api.Row, api.Errno) {
	for o, p := range plans {
		// Names are put together for few rows only.
		if !p.hasHead(s) {
			continue
		}
		for row := range Each(api.Op(o)) {
			if nameOf(row) == s {
				return row, api.OK
			}
		}
	}
	return api.Row{}, api.ErrRow
}
