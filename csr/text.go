package csr

import (
	"strings"

	"abacus/api"
)

// What stands between two words, and what stands where there is none.
const (
	between = "+"
	noFlags = "-"
)

// words are the flags' own, in the order in which a text has them: from the highest flag down.
var words = [...]string{"nv", "dz", "of", "uf", "nx"}

// flag is the one whose word stands at i.
func flag(i int) api.Flags { return api.Invalid >> uint(i) }

// Text is the text of a set of flags.
func Text(f api.Flags) (string, api.Errno) {
	if f > flagMask {
		return "", api.ErrArg
	}
	return joined(f), api.OK
}

// ReadText is the set of flags whose text s is. A set has one text alone, so that it is enough to hold s against that of the flags whose words it has anywhere.
func ReadText(s string) (api.Flags, api.Errno) {
	var f api.Flags
	for i, w := range words {
		if strings.Contains(s, w) {
			f |= flag(i)
		}
	}
	if joined(f) != s {
		return 0, api.ErrFlags
	}
	return f, api.OK
}

// joined is the text of flags of which none is beyond the five.
func joined(f api.Flags) string {
	if f == 0 {
		return noFlags
	}
	var list []string
	for i, w := range words {
		if f&flag(i) != 0 {
			list = append(list, w)
		}
	}
	return strings.Join(list, between)
}
