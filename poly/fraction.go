package poly

import (
	"isocline/api"
	"isocline/exact"
)

// fraction is a polynomial without a limit: whole coefficients over a common denominator, which is not 0.
// Only numbers brings it into lowest terms: what is calculated in between needs no common divisors.
type fraction struct {
	exact.Poly
	under exact.Int
}

func of(p []api.Rat) fraction {
	whole, under := exact.Common(p)
	return fraction{whole, under}
}

// numbers returns the polynomial in lowest terms: ErrLarge if its degree is above MaxDeg or a number is not representable.
func (p fraction) numbers() ([]api.Rat, api.Errno) {
	return made(len(p.Poly), func(i int) (api.Rat, api.Errno) { return exact.Number(p.Poly[i], p.under) })
}

// pair returns the polynomials that are two results of one call.
func pair(p, q fraction) ([]api.Rat, []api.Rat, api.Errno) {
	first, e := p.numbers()
	if e != api.OK {
		return nil, nil, e
	}
	second, e := q.numbers()
	if e != api.OK {
		return nil, nil, e
	}
	return first, second, api.OK
}

func (p fraction) add(q fraction) fraction {
	return fraction{p.Scale(q.under).Add(q.Scale(p.under)), p.under.Mul(q.under)}
}

// after returns p(q(t)).
func (p fraction) after(q fraction) fraction {
	var sum exact.Poly
	unit := exact.NewInt(1) // the denominator of the power of q that the sum has come to
	for i := p.Degree(); i >= 0; i-- {
		sum = sum.Mul(q.Poly).Add(exact.NewPoly([]exact.Int{p.Poly[i].Mul(unit)}))
		if i > 0 {
			unit = unit.Mul(q.under)
		}
	}
	return fraction{sum, unit.Mul(p.under)}
}
