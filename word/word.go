// Package word is layer 1: see shared/doc/01-word.md.
package word

import (
	"math/bits"

	"abacus/api"
)

// size is how many bits a word has.
const size = 64

func Add(a, b uint64, carry bool) (sum uint64, over bool) {
	sum = a + b
	// A sum that wrapped is below either of its parts.
	over = sum < a
	if carry {
		sum++
		// What wrapped already is at most 2^64 - 2: it can't wrap again.
		over = over || sum == 0
	}
	return sum, over
}

func Sub(a, b uint64, borrow bool) (diff uint64, under bool) {
	diff = a - b
	// A difference that wrapped is above what it was taken from.
	under = diff > a
	if borrow {
		// What wrapped already is at least 1: it can't wrap again.
		under = under || diff == 0
		diff--
	}
	return diff, under
}

func Mul(a, b uint64) (hi, lo uint64) {
	return bits.Mul64(a, b)
}

// Div refuses where hi is not below by, since there the quotient is more than a word holds; by 0 falls under that too.
func Div(hi, lo, by uint64) (quo, rest uint64, e api.Errno) {
	if hi >= by {
		return 0, 0, api.ErrArg
	}
	rest = hi
	steps := 0
next:
	// Twice the rest may need one bit more than a word has: out is that bit. What by leaves of it is below by, so the difference may wrap.
	out := rest >> (size - 1)
	rest <<= 1
	rest |= lo >> (size - 1)
	lo <<= 1
	quo <<= 1
	if out == 1 || rest >= by {
		rest -= by
		quo |= 1
	}
	steps++
	if steps < size {
		goto next
	}
	return quo, rest, api.OK
}

func Len(x uint64) int {
	return bits.Len64(x)
}

func Low(x uint64) int {
	return bits.TrailingZeros64(x)
}

func Ones(x uint64) int {
	return bits.OnesCount64(x)
}

// count brings n within a word ahead of the conversion: a shift by a number below 0 would panic.
func count(n int) uint {
	return uint(min(max(n, 0), size))
}

func Left(x uint64, n int) uint64 {
	return x << count(n)
}

func Right(x uint64, n int) uint64 {
	return x >> count(n)
}

func Mask(n int) uint64 {
	// At 64 the shift leaves 0, and 0 less 1 wraps to all ones.
	return Left(1, n) - 1
}

func Field(x uint64, low, n int) uint64 {
	x >>= count(low)
	x &= Mask(n)
	return x
}

func Extend(x uint64, n int) uint64 {
	n = min(max(n, 1), size)
	sign := Left(1, n-1)
	x &= Mask(n)
	// The sign's bit, turned and then taken away, borrows from all bits above just where it was 1.
	x ^= sign
	x -= sign
	return x
}

func Sqrt(x uint64) (root, rest uint64) {
	// Two bits of x make one bit of the root. The rest stays at most twice the root, so nothing here reaches 2^64.
	for range size / 2 {
		rest <<= 2
		rest |= x >> (size - 2)
		x <<= 2
		step := root<<2 | 1
		root <<= 1
		if step <= rest {
			rest -= step
			root |= 1
		}
	}
	return root, rest
}
