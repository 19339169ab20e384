package exact

import (
	"math"

	"isocline/api"
)

// Number returns n divided by d, which is not 0, as a number: ErrLarge if it is not representable.
// The convergents of the quotient grow until they are the quotient or pass the limit, within some sixty steps:
// no common divisor is searched for, however long n and d are.
func Number(n, d Int) (api.Rat, api.Errno) {
	before, last := api.Rat{N: 0, D: 1}, api.Rat{N: 1, D: 0}
	top, bottom := n.abs(), d.abs()
	for len(bottom) > 0 {
		whole, rest := top.div(bottom)
		next, ok := convergent(before, last, whole)
		if !ok {
			return api.Rat{}, api.ErrLarge
		}
		before, last = last, next
		top, bottom = bottom, rest
	}
	if n.Sign()*d.Sign() < 0 {
		last.N = -last.N
	}
	return last, api.OK
}

// Share returns whole numbers and their common denominator, above 0: over it they are the numbers of l.
func Share(l []api.Rat) ([]Int, Int) {
	under := NewInt(1)
	for _, x := range l {
		d := NewInt(x.D)
		under = under.Mul(d.Quo(under.Gcd(d)))
	}
	whole := make([]Int, len(l))
	for i, x := range l {
		whole[i] = under.Quo(NewInt(x.D)).Mul(NewInt(x.N))
	}
	return whole, under
}

// convergent returns the one that follows with the next item a of the continued fraction, and whether it is within the limit.
func convergent(before, last api.Rat, a nat) (api.Rat, bool) {
	n, ok := follow(before.N, last.N, a)
	d, okToo := follow(before.D, last.D, a)
	return api.Rat{N: n, D: d}, ok && okToo
}

// follow returns before + a * last, and whether it is at most MaxNum, as before and last are.
func follow(before, last int, a nat) (int, bool) {
	if last == 0 {
		return before, true
	}
	if len(a) > 1 || limb(a, 0) > math.MaxInt64 {
		return 0, false
	}
	k := int(limb(a, 0))
	if k > (api.MaxNum-before)/last {
		return 0, false
	}
	return before + k*last, true
}
