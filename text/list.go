package text

import (
	"strings"

	"abacus/api"
	"abacus/decode"
)

const wordBytes = 4

// List is the list of b.
func List(b []byte) ([]string, api.Errno) {
	left := len(b) % wordBytes
	// No list is made that ReadList would find too long.
	if len(b)/wordBytes+left > api.MaxList {
		return nil, api.ErrLong
	}
	var l []string
	for at, w := range decode.Words(b) {
		l = append(l, place(at)+Word(w))
	}
	for at := len(b) - left; at < len(b); at++ {
		l = append(l, place(at)+byteMark+hex(uint32(b[at]), byteDigits))
	}
	return l, api.OK
}

// place is what stands ahead of a line whose first byte stands at that place.
func place(at int) string { return hex(uint32(at), placeDigits) + blank }

// ReadList is the bytes whose list the lines are, and how many lines; or the place of the first line by which they are none.
func ReadList(l ...string) (b []byte, at int, e api.Errno) {
	if len(l) > api.MaxList {
		return nil, 0, api.ErrLong
	}
	for i, s := range l {
		line, is := strings.CutPrefix(s, place(len(b)))
		if !is {
			return nil, i, api.ErrLine
		}
		next, is := lineBytes(line, len(b)%wordBytes)
		if !is {
			return nil, i, api.ErrLine
		}
		b = append(b, next...)
	}
	return b, len(l), api.OK
}

// lineBytes are the bytes of a line behind its place, ahead of which so many single bytes stand.
func lineBytes(line string, single int) (b []byte, is bool) {
	if digits, isByte := strings.CutPrefix(line, byteMark); isByte {
		n, is := readHex(digits, byteDigits)
		// Four bytes would be a word.
		if !is || single == wordBytes-1 {
			return nil, false
		}
		return []byte{byte(n)}, true
	}
	w, e := ReadWord(line)
	if e != api.OK || single != 0 {
		return nil, false
	}
	for i := range wordBytes {
		b = append(b, byte(w>>(8*i)))
	}
	return b, true
}
