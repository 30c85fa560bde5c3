package csr

import (
	"math"

	"abacus/api"
)

// What the calls answer, so that it is held against what is wanted as a whole.
type (
	number struct {
		x uint64
		e api.Errno
	}
	byteful struct {
		b uint8
		e api.Errno
	}
	acted struct {
		old   uint64
		now   uint8
		wrote bool
		e     api.Errno
	}
	moded struct {
		m api.Mode
		e api.Errno
	}
	flagged struct {
		f api.Flags
		e api.Errno
	}
	counted struct {
		n int
		e api.Errno
	}
	said struct {
		s string
		e api.Errno
	}
)

func toNumber(x uint64, e api.Errno) number { return number{x, e} }

func toByte(b uint8, e api.Errno) byteful { return byteful{b, e} }

func toActed(old uint64, now uint8, wrote bool, e api.Errno) acted { return acted{old, now, wrote, e} }

func toMode(m api.Mode, e api.Errno) moded { return moded{m, e} }

func toFlags(f api.Flags, e api.Errno) flagged { return flagged{f, e} }

func toCount(n int, e api.Errno) counted { return counted{n, e} }

func toText(s string, e api.Errno) said { return said{s, e} }

// source is xorshift: the same numbers each time.
type source uint64

func (s *source) next() uint64 {
	x := uint64(*s)
	x ^= x << 13
	x ^= x >> 7
	x ^= x << 17
	*s = source(x)
	return x
}

// numbers are the control registers', and size is how many numbers each can have: the model goes by quotients and rests, not by shifts and masks.
var (
	numbers = []int{1, 2, 3}
	size    = map[int]uint64{1: 32, 2: 8, 3: 256}
	name    = map[int]string{1: "fflags", 2: "frm", 3: "fcsr"}
	hows    = []api.CsrHow{api.Swap, api.Set, api.Clear}
)

// has is what a control register has.
func has(n int, fcsr uint8) uint64 {
	switch n {
	case 1:
		return uint64(fcsr) % 32
	case 2:
		return uint64(fcsr) / 32
	}
	return uint64(fcsr)
}

// written is fcsr with x's rest in a control register.
func written(n int, fcsr uint8, x uint64) uint8 {
	flags, frm := uint64(fcsr)%32, uint64(fcsr)/32
	switch n {
	case 1:
		flags = x % 32
	case 2:
		frm = x % 8
	case 3:
		flags, frm = x%32, x/32%8
	}
	return uint8(frm*32 + flags)
}

// bitwise is the number of 64 bits, each of which pick tells out of those of a and b.
func bitwise(a, b uint64, pick func(a, b bool) bool) uint64 {
	sum, power := uint64(0), uint64(1)
	for range 64 {
		if pick(a%2 == 1, b%2 == 1) {
			sum += power
		}
		a, b, power = a/2, b/2, power*2
	}
	return sum
}

func either(a, b bool) bool { return a || b }

func firstAlone(a, b bool) bool { return a && !b }

// after is what Act answers.
func after(how api.CsrHow, n int, fcsr uint8, x uint64, silent bool) acted {
	old := has(n, fcsr)
	if how == api.Set && silent || how == api.Clear && silent {
		return acted{old: old, now: fcsr}
	}
	put := map[api.CsrHow]uint64{
		api.Swap:  x,
		api.Set:   bitwise(old, x, either),
		api.Clear: bitwise(old, x, firstAlone),
	}
	return acted{old: old, now: written(n, fcsr, put[how]), wrote: true}
}

// some are words to be written: all of up to 9 bits, with something above them too, and each bit alone.
func some(s source) []uint64 {
	list := []uint64{math.MaxUint64, math.MaxInt64, math.MaxUint32}
	for x := range uint64(512) {
		list = append(list, x, s.next()<<8|x)
	}
	for n := range 64 {
		list = append(list, 1<<n, ^(uint64(1) << n))
	}
	return list
}

// few are words to be written where there is much else to go over.
func few(s source) []uint64 {
	list := []uint64{0, 1, 7, 8, 0x1f, 0x20, 0xe0, 0xff, 0x100, 0x1f4, 1 << 32, 1 << 63, math.MaxUint64}
	for range 40 {
		list = append(list, s.next())
	}
	return list
}

// none are numbers of no control register; among them such as are one in their lowest bits.
func none() []int {
	list := []int{0, -1, -2, -3, -4, 4, 5, 8, 255, 256, math.MaxInt, math.MinInt, math.MaxInt32, math.MinInt32}
	for _, n := range numbers {
		for at := 2; at < 64; at++ {
			list = append(list, n+1<<at, n-1<<at)
		}
	}
	return list
}

// texts are the 32 sets' own, each at its set.
var texts = [32]string{
	"-", "nx", "uf", "uf+nx", "of", "of+nx", "of+uf", "of+uf+nx",
	"dz", "dz+nx", "dz+uf", "dz+uf+nx", "dz+of", "dz+of+nx", "dz+of+uf", "dz+of+uf+nx",
	"nv", "nv+nx", "nv+uf", "nv+uf+nx", "nv+of", "nv+of+nx", "nv+of+uf", "nv+of+uf+nx",
	"nv+dz", "nv+dz+nx", "nv+dz+uf", "nv+dz+uf+nx", "nv+dz+of", "nv+dz+of+nx", "nv+dz+of+uf", "nv+dz+of+uf+nx",
}

// read is what ReadText answers.
func read(s string) flagged {
	for i, text := range texts {
		if text == s {
			return flagged{f: api.Flags(i)}
		}
	}
	return flagged{e: api.ErrFlags}
}
