package text

import "strings"

const hexDigits = "0123456789abcdef"

// A hex digit stands for so many bits.
const digitBits = 4

// hex is the lowest bits of n in count digits.
func hex(n uint32, count int) string {
	b := make([]byte, count)
	for i := range b {
		at := digitBits * (count - 1 - i)
		b[i] = hexDigits[n>>at&(1<<digitBits-1)]
	}
	return string(b)
}

// readHex is the number that s is in count digits.
func readHex(s string, count int) (n uint32, is bool) {
	if len(s) != count {
		return 0, false
	}
	for _, c := range []byte(s) {
		digit := strings.IndexByte(hexDigits, c)
		if digit < 0 {
			return 0, false
		}
		n = n<<digitBits | uint32(digit)
	}
	return n, true
}
