package nat

import "abacus/word"

// divisor tells the greatest common divisor: each of two numbers goes over into the rest of the other, till one word is left.
func divisor(a, b []uint64) []uint64 {
	if compare(a, b) < 0 {
		a, b = b, a
	}
	for len(b) > 1 {
		a, b = shorten(a, b)
	}
	if len(b) == 0 {
		return a
	}
	// 1 divides all: a long number need not be divided to know it.
	if b[0] == 1 {
		return b
	}
	_, rest := divide(a, b)
	return []uint64{wordDivisor(b[0], at(rest, 0))}
}

func wordDivisor(a, b uint64) uint64 {
	for b != 0 {
		a, b = b, a%b
	}
	return a
}

// shorten asks b to have two words or more, and a not to be below it; it tells two numbers that have the same divisors in common, the second one below the first. Many turns at once are made out of the highest bits; where these tell not even one turn for sure, it is made by a quotient.
func shorten(a, b []uint64) (c, d []uint64) {
	first, second, swapped := turns(highest(a, b))
	if second.ofA == 0 {
		_, rest := divide(a, b)
		return b, rest
	}
	if swapped {
		return balance(b, first.ofB, a, first.ofA), balance(a, second.ofA, b, second.ofB)
	}
	return balance(a, first.ofA, b, first.ofB), balance(b, second.ofB, a, second.ofA)
}

// highest tells the highest 64 bits of a, and what b has at the same places.
func highest(a, b []uint64) (x, y uint64) {
	top := len(a) - 1
	n := len(a)*wordSize - bitLen(a)
	x = word.Left(a[top], n) | word.Right(a[top-1], wordSize-n)
	y = word.Left(at(b, top), n) | word.Right(at(b, top-1), wordSize-n)
	return x, y
}

// turn is a rest on the way, and how often a and b are in it: one of the two counts is taken from the other, by turns.
type turn struct {
	rest, ofA, ofB uint64
}

// turns goes the way of two numbers of which x and y are the highest bits, as far as these tell it for sure, and answers the last two rests. Swapped: in the first one a is taken from b, in the second one b from a; else it is the other way round. No count wraps: the next one, times the rest there is, is at most x.
func turns(x, y uint64) (first, second turn, swapped bool) {
	first = turn{rest: x, ofA: 1}
	second = turn{rest: y, ofB: 1}
	for second.rest != 0 {
		times := first.rest / second.rest
		next := turn{first.rest - times*second.rest, first.ofA + times*second.ofA, first.ofB + times*second.ofB}
		if !sure(second, next) {
			break
		}
		first, second = second, next
		swapped = !swapped
	}
	return first, second, swapped
}

// sure tells whether next is the rest of the whole numbers too, whatever their lower bits are. These move a rest by less than ofB, the greater one of the counts: so it must stay above 0, and below the one ahead of it.
func sure(ahead, next turn) bool {
	return next.rest >= next.ofB && ahead.rest-next.rest >= ahead.ofB+next.ofB
}

// balance tells a, times times, less b, less times. It asks that not to be below 0, nor to be longer than the longer one of both: what comes out above that is 0.
func balance(a []uint64, times uint64, b []uint64, less uint64) []uint64 {
	out := make([]uint64, max(len(a), len(b)))
	var x, y, carryX, carryY uint64
	under := false
	for i := range out {
		x, carryX = mulAdd(at(a, i), times, carryX)
		y, carryY = mulAdd(at(b, i), less, carryY)
		out[i], under = word.Sub(x, y, under)
	}
	return trim(out)
}
