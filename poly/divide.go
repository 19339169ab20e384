package poly

import (
	"isocline/api"
	"isocline/exact"
)

// Div returns quotient and remainder: ErrNone if q is zero.
func Div(p, q []api.Rat) ([]api.Rat, []api.Rat, api.Errno) {
	if e := bothErrors(p, q); e != api.OK {
		return nil, nil, e
	}
	if len(q) == 0 {
		return nil, nil, api.ErrNone
	}
	a, b := of(p), of(q)
	k, quotient, rest := a.Div(b.Poly)
	under := k.Mul(a.under)
	return pair(fraction{quotient.Scale(b.under), under}, fraction{rest, under})
}

// Gcd returns the monic greatest common divisor, zero if both are zero.
func Gcd(p, q []api.Rat) ([]api.Rat, api.Errno) {
	if e := bothErrors(p, q); e != api.OK {
		return nil, e
	}
	return monic(of(p).Gcd(of(q).Poly))
}

// monic returns the monic multiple of p, zero if p is zero.
func monic(p exact.Poly) ([]api.Rat, api.Errno) {
	if p.Degree() < 0 {
		return nil, api.OK
	}
	return fraction{p, p.Last()}.numbers()
}

// Primitive returns the primitive polynomial that is a multiple of p, and the number times which it is p: ErrNone if p is zero.
func Primitive(p []api.Rat) ([]api.Rat, api.Rat, api.Errno) {
	if e := Validate(p); e != api.OK {
		return nil, api.Rat{}, e
	}
	if len(p) == 0 {
		return nil, api.Rat{}, api.ErrNone
	}
	a := of(p)
	primitive, content := a.Primitive()
	whole, e := fraction{primitive, exact.NewInt(1)}.numbers()
	if e != api.OK {
		return nil, api.Rat{}, e
	}
	f, e := exact.Number(content, a.under)
	if e != api.OK {
		return nil, api.Rat{}, e
	}
	return whole, f, api.OK
}

// factor is a primitive polynomial that stands several times.
type factor struct {
	exact.Poly
	times int
}

// Squares returns the square-free factorization and the last coefficient: ErrNone if p is zero.
func Squares(p []api.Rat) ([]api.Power, api.Rat, api.Errno) {
	if e := Validate(p); e != api.OK {
		return nil, api.Rat{}, e
	}
	if len(p) == 0 {
		return nil, api.Rat{}, api.ErrNone
	}
	var powers []api.Power
	for _, f := range factors(of(p).Poly) {
		m, e := monic(f.Poly)
		if e != api.OK {
			return nil, api.Rat{}, e
		}
		powers = append(powers, api.Power{P: m, N: f.times})
	}
	return powers, p[len(p)-1], api.OK
}

// factors returns the square-free factors of p that are not constant; p is not zero.
// What p and its derivative have in common is each factor of p once less often.
func factors(p exact.Poly) []factor {
	p, _ = p.Primitive()
	more := p.Gcd(p.Derive())
	rest := factor{p.Quo(more), 1} // those that stand at least so many times, once each
	var l []factor
	for rest.Degree() > 0 {
		again := rest.Gcd(more)
		if f := (factor{rest.Quo(again), rest.times}); f.Degree() > 0 {
			l = append(l, f)
		}
		more = more.Quo(again)
		rest = factor{again, rest.times + 1}
	}
	return l
}

// Resultant returns the resultant, 0 if p or q is zero.
func Resultant(p, q []api.Rat) (api.Rat, api.Errno) {
	if e := bothErrors(p, q); e != api.OK {
		return api.Rat{}, e
	}
	if len(p) == 0 || len(q) == 0 {
		return api.Rat{N: 0, D: 1}, api.OK
	}
	a, b := of(p), of(q)
	under := a.under.Power(b.Degree()).Mul(b.under.Power(a.Degree()))
	return exact.Number(a.Resultant(b.Poly), under)
}

// Bezout returns u and v with u * p + v * q = the monic greatest common divisor.
func Bezout(p, q []api.Rat) ([]api.Rat, []api.Rat, api.Errno) {
	if e := bothErrors(p, q); e != api.OK {
		return nil, nil, e
	}
	if len(p) == 0 && len(q) == 0 {
		return nil, nil, api.OK
	}
	a, b := of(p), of(q)
	u, v, g := a.Bezout(b.Poly)
	return pair(fraction{u.Scale(a.under), g.Last()}, fraction{v.Scale(b.under), g.Last()})
}
