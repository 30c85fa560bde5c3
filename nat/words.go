package nat

import (
	"cmp"
	"math"

	"abacus/api"
	"abacus/word"
)

// Within the package a number is a list of words, the lowest first, the last one not 0, of whatever length; 0 is an empty list. What a function is handed and what it answers is so, unless it says otherwise.

const (
	wordSize  = 64
	wordBytes = wordSize / byteSize
)

// wordsOf asks a to be one that may be: its first byte is not 0, and so the last word is not.
func wordsOf(a api.Nat) []uint64 {
	list := make([]uint64, (len(a)+wordBytes-1)/wordBytes)
	for i := range len(a) {
		place := len(a) - 1 - i
		list[place/wordBytes] |= word.Left(uint64(a[i]), place%wordBytes*byteSize)
	}
	return list
}

// natOf takes lists with noughts above too.
func natOf(list []uint64) api.Nat {
	out := make([]byte, (bitLen(trim(list))+byteSize-1)/byteSize)
	for i := range len(out) {
		place := len(out) - 1 - i
		out[i] = byte(word.Right(list[place/wordBytes], place%wordBytes*byteSize))
	}
	return api.Nat(out)
}

func answer(list []uint64) (api.Nat, api.Errno) {
	if bitLen(list) > maxBits {
		return "", api.ErrLong
	}
	return natOf(list), api.OK
}

func trim(list []uint64) []uint64 {
	for len(list) > 0 && list[len(list)-1] == 0 {
		list = list[:len(list)-1]
	}
	return list
}

func bitLen(list []uint64) int {
	if len(list) == 0 {
		return 0
	}
	return (len(list)-1)*wordSize + word.Len(list[len(list)-1])
}

// at tells the word at a place; beyond the list there are noughts.
func at(list []uint64, place int) uint64 {
	if place >= len(list) {
		return 0
	}
	return list[place]
}

func compare(a, b []uint64) int {
	if len(a) != len(b) {
		return cmp.Compare(len(a), len(b))
	}
	for i := len(a) - 1; i >= 0; i-- {
		if a[i] != b[i] {
			return cmp.Compare(a[i], b[i])
		}
	}
	return 0
}

func sum(a, b []uint64) []uint64 {
	out := make([]uint64, max(len(a), len(b))+1)
	copy(out, a)
	addTo(out, b, 1)
	return trim(out)
}

func difference(a, b []uint64) (diff []uint64, under bool) {
	out := make([]uint64, max(len(a), len(b)))
	copy(out, a)
	if takeFrom(out, b, 1) {
		return nil, true
	}
	return trim(out), false
}

// addTo adds b, times times, to a list that is at least as long as that; over: whether the sum wrapped.
func addTo(list, b []uint64, times uint64) (over bool) {
	var lo, carry uint64
	for i := range list {
		lo, carry = mulAdd(at(b, i), times, carry)
		list[i], over = word.Add(list[i], lo, over)
	}
	return over
}

// takeFrom takes b, times times, from a list that is at least as long as that; under: whether what is left wrapped.
func takeFrom(list, b []uint64, times uint64) (under bool) {
	var lo, carry uint64
	for i := range list {
		lo, carry = mulAdd(at(b, i), times, carry)
		list[i], under = word.Sub(list[i], lo, under)
	}
	return under
}

// mulAdd tells x times y, and u: at most 2^128 - 2^64, so that the upper word never wraps.
func mulAdd(x, y, u uint64) (lo, hi uint64) {
	hi, lo = word.Mul(x, y)
	lo, over := word.Add(lo, u, false)
	if over {
		hi++
	}
	return lo, hi
}

// product adds up b times each word of a. What the words up to i make with b ends below the place i + len(b) + 1: no carry goes further.
func product(a, b []uint64) []uint64 {
	out := make([]uint64, len(a)+len(b))
	for i, x := range a {
		addTo(out[i:i+len(b)+1], b, x)
	}
	return trim(out)
}

// up asks n to be 0 or more.
func up(list []uint64, n int) []uint64 {
	return trim(raise(list, n))
}

// raise answers a list with room above: one word more than the whole words that it went up by. A word goes into at most two; where n is a multiple of 64, the second shift is by 64 and adds nothing.
func raise(list []uint64, n int) []uint64 {
	whole, part := n/wordSize, n%wordSize
	out := make([]uint64, len(list)+whole+1)
	for i, x := range list {
		out[i+whole] |= word.Left(x, part)
		out[i+whole+1] |= word.Right(x, wordSize-part)
	}
	return out
}

// down asks n to be 0 or more; it takes lists with noughts above too.
func down(list []uint64, n int) []uint64 {
	whole, part := n/wordSize, n%wordSize
	out := make([]uint64, max(len(list)-whole, 0))
	for i := range out {
		out[i] = word.Right(list[i+whole], part) | word.Left(at(list, i+whole+1), wordSize-part)
	}
	return trim(out)
}

// divide asks b not to be 0. Both are moved up till b's highest bit is a word's highest one, so that a digit can be guessed from the highest words.
func divide(a, b []uint64) (quo, rest []uint64) {
	n := len(b)*wordSize - bitLen(b)
	by := up(b, n)
	left := raise(a, n)
	quo = make([]uint64, max(len(a)-len(b)+1, 0))
	for i := len(quo) - 1; i >= 0; i-- {
		quo[i] = digit(left[i:i+len(by)+1], by)
	}
	return trim(quo), down(left, n)
}

// digit takes from part, which is one word longer than by and below 2^64 times it, by as often as it goes, and tells how often. What was taken too often, it gives back: the guess is never too low, and at most two too high, since by's highest bit is 1.
func digit(part, by []uint64) uint64 {
	n := len(by)
	times := guess(part[n], part[n-1], by[n-1])
	under := takeFrom(part, by, times)
	for under {
		times--
		under = !addTo(part, by, 1)
	}
	return times
}

// guess has the greatest word where the quotient of the highest words is more than a word holds.
func guess(hi, lo, by uint64) uint64 {
	quo, _, e := word.Div(hi, lo, by)
	if e != api.OK {
		return math.MaxUint64
	}
	return quo
}

// squareRoot goes down from a power of two that is not below the root, each time to half of the sum of what there is and a by it, which is never below the root; where that goes down no more, it is there.
func squareRoot(a []uint64) []uint64 {
	if len(a) == 0 {
		return nil
	}
	root := up([]uint64{1}, (bitLen(a)+1)/2)
	for {
		quo, _ := divide(a, root)
		next := down(sum(root, quo), 1)
		if compare(next, root) >= 0 {
			return root
		}
		root = next
	}
}
