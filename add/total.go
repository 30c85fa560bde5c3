package add

import (
	"abacus/api"
	"abacus/jam"
	"abacus/kind"
	"abacus/wide"
)

// spare is how many bits stand below the greater one's lowest: a difference from what is far below it may lose its highest bit, the next one tells halves, and the last one that something is below them.
const spare = 3

// total is the sum of two finite numbers of which x has the greater magnitude, or one with the same neighbours and halves. Where what y has is cut off, x is far above it: its cut-off bits are then below halves of the sum's step.
func total(m api.Mode, x, y api.Parts) api.Rough {
	like := below(x) == below(y)
	greater := raised(x.Sig)
	lesser := jam.Right(raised(y.Sig), x.Exp-y.Exp)
	r := api.Rough{Neg: below(x), Exp: x.Exp - spare}
	if like {
		r.Sig, _ = wide.Add(greater, lesser)
	} else {
		r.Sig, _ = wide.Sub(greater, lesser)
	}
	if !like && r.Sig == (api.Wide{}) {
		r.Neg = m == api.Down
	}
	return r
}

func raised(sig api.Wide) api.Wide {
	up, _ := wide.Left(sig, spare)
	return up
}

// below tells of a finite number whether its sign is 1; of the classes those come first.
func below(p api.Parts) bool { return p.Class <= api.NegZero }

// magnitude is an encoding without its sign.
func magnitude(f api.Form, b api.Bits) api.Wide {
	if kind.Sign(f, b) {
		b = kind.Flip(f, b)
	}
	return wide.OfBits(b)
}
