package root

import (
	"isocline/api"
	"isocline/exact"
	"isocline/poly"
)

// fineness tells how near the value in a gap is to that at its root: the nearer, the less often both have to be told apart.
const fineness = 1024

// values is a polynomial with whole coefficients over a denominator above 0.
type values struct {
	exact.Poly
	under exact.Int
}

// ends are the greatest integer that is at most all of some numbers, and the least one that is at least all of them.
type ends struct {
	floor, ceiling exact.Int
}

// with returns the ends of the numbers of both.
func (e ends) with(o ends) ends {
	if o.floor.Cmp(e.floor) < 0 {
		e.floor = o.floor
	}
	if o.ceiling.Cmp(e.ceiling) > 0 {
		e.ceiling = o.ceiling
	}
	return e
}

// around returns the ends of n/d, d above 0.
func around(n, d exact.Int) ends {
	return ends{n.Floor(d), n.Neg().Floor(d).Neg()}
}

// Least returns the greatest integer k such that k/g is at most every value of p from a to b, and the least one l such that
// l/g is at least every value: ErrArg for the range and the grid, ErrLarge for k and l.
func Least(p []api.Rat, a, b api.Rat, g int) (int, int, api.Errno) {
	if e := poly.Validate(p); e != api.OK {
		return 0, 0, e
	}
	if e := ascending(a, b); e != api.OK {
		return 0, 0, e
	}
	if g < 1 || g > api.MaxGrid {
		return 0, 0, api.ErrArg
	}
	whole, under := exact.Common(p)
	found := values{whole.Scale(exact.NewInt(g)), under}.between(pointOf(a), pointOf(b))
	k, small := found.floor.Small()
	l, smallToo := found.ceiling.Small()
	if !small || !smallToo || k < -api.MaxNum || l > api.MaxNum {
		return 0, 0, api.ErrLarge
	}
	return int(k), int(l), api.OK
}

// between returns the ends of the values from a to b: the least and the greatest one are at a, at b,
// or where the derivative is 0.
func (v values) between(a, b point) ends {
	e := v.at(a).with(v.at(b))
	slope := v.Derive()
	if slope.Degree() < 1 {
		return e
	}
	c := sturm(slope)
	for k := c.upTo(a); k < c.upTo(b); k++ {
		e = e.with(v.atRoot(number{c, k}.place()))
	}
	return e
}

// at returns the ends of the value at x.
func (v values) at(x point) ends {
	return around(v.Value(x.n, x.d), v.overAt(x))
}

// overAt returns the denominator of the value at x, if Value returns its numerator.
func (v values) overAt(x point) exact.Int {
	return x.d.Power(max(v.Degree(), 0)).Mul(v.under)
}

// atRoot returns the ends of the value at a root.
func (v values) atRoot(p place) ends {
	for steep := v.steepest(p.gap); !p.isPoint() && v.isWide(p.gap, steep); {
		p = p.narrowed()
	}
	x := p.first()
	if p.isPoint() {
		return v.at(x)
	}
	// The value at x is less than 1/fineness away: only where this may be across an integer, the value has to be compared with it.
	fine, over := exact.NewInt(fineness), v.overAt(x)
	near, unit := v.Value(x.n, x.d).Mul(fine), over.Mul(fine)
	below, n := near.Sub(over).Floor(unit), near.Add(over).Floor(unit)
	if below.Cmp(n) < 0 {
		return next(n, p.sign(v.Sub(exact.NewPoly([]exact.Int{n.Mul(v.under)}))))
	}
	return next(n, 1)
}

// next returns the ends of a number that is less than 1 away from n: less than n, equal to it or greater, as order is -1, 0 or 1.
func next(n exact.Int, order int) ends {
	return ends{n.Add(exact.NewInt(min(order, 0))), n.Add(exact.NewInt(max(order, 0)))}
}

// steepest returns a number that is at least the absolute values of the slope in the gap, times the denominator.
func (v values) steepest(g gap) exact.Int {
	far := g.low.Abs()
	if far.Cmp(g.high.Abs()) < 0 {
		far = g.high.Abs()
	}
	far = far.Floor(g.under).Add(exact.NewInt(1))
	var sum exact.Int
	for i, c := range v.Derive() {
		sum = sum.Add(c.Abs().Mul(far.Power(i)))
	}
	return sum
}

// isWide reports whether two values in the gap may be 1/fineness or more apart.
func (v values) isWide(g gap, steep exact.Int) bool {
	apart := g.high.Sub(g.low).Mul(steep)
	return apart.Mul(exact.NewInt(fineness)).Cmp(g.under.Mul(v.under)) >= 0
}
