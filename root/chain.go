package root

import (
	"isocline/api"
	"isocline/exact"
	"isocline/poly"
)

// chain is the Sturm chain of a primitive square-free polynomial, which it begins with: between two numbers it loses
// as many changes of sign as the polynomial has roots that are greater than the first one and at most the second one.
type chain []exact.Poly

// sturm returns the chain of the square-free part of p, which is not zero.
func sturm(p exact.Poly) chain {
	p, _ = p.Primitive()
	row := p.Remainders(p.Derive())
	if row[len(row)-1].Degree() == 0 {
		return row
	}
	p = p.Quo(p.Gcd(p.Derive()))
	return p.Remainders(p.Derive())
}

// chains keeps the chains that one call has made, each by the coefficients of its polynomial and zero values behind them.
type chains map[[api.MaxDeg + 1]api.Rat]chain

// of returns the chain of the square-free part of p, which poly.Validate takes and which is not zero.
func (c chains) of(p []api.Rat) chain {
	var key [api.MaxDeg + 1]api.Rat
	copy(key[:], p)
	made, ok := c[key]
	if !ok {
		whole, _ := exact.Common(p)
		made = sturm(whole)
		c[key] = made
	}
	return made
}

// number returns what r stands for, or the first error of Validate.
func (c chains) number(r api.Root) (number, api.Errno) {
	if e := poly.Validate(r.P); e != api.OK {
		return number{}, e
	}
	_, factor, e := poly.Primitive(r.P)
	if e != api.OK || factor != (api.Rat{N: 1, D: 1}) || len(r.P) < 2 {
		return number{}, api.ErrArg
	}
	made := c.of(r.P)
	if len(made[0]) < len(r.P) {
		return number{}, api.ErrArg
	}
	if r.K < 0 || r.K >= made.total() {
		return number{}, api.ErrNone
	}
	return number{made, r.K}, api.OK
}

// changes returns how often the sign changes along a row, noughts left out.
func changes[T any](row []T, sign func(T) int) int {
	n, last := 0, 0
	for _, x := range row {
		s := sign(x)
		if s*last < 0 {
			n++
		}
		if s != 0 {
			last = s
		}
	}
	return n
}

// signAbove returns the sign of p, which is not zero, at all numbers above its roots.
func signAbove(p exact.Poly) int {
	return p.Last().Sign()
}

// signBelow returns the sign of p, which is not zero, at all numbers below its roots.
func signBelow(p exact.Poly) int {
	if p.Degree()%2 != 0 {
		return -signAbove(p)
	}
	return signAbove(p)
}

// total returns the number of real roots.
func (c chain) total() int {
	return lost(c)
}

// lost returns how many changes of sign a row of polynomials loses from below all their roots to above them.
func lost(row []exact.Poly) int {
	return changes(row, signBelow) - changes(row, signAbove)
}

// upTo returns the number of real roots that are at most x.
func (c chain) upTo(x point) int {
	return changes(c, signBelow) - changes(c, x.sign)
}

// reach returns a power of two that is greater than the absolute values of all roots.
func (c chain) reach() exact.Int {
	var most exact.Int
	for _, n := range c[0] {
		if n = n.Abs(); n.Cmp(most) > 0 {
			most = n
		}
	}
	// No root is further out than 1 and the quotient of the greatest coefficient by the last one.
	two, power := exact.NewInt(2), exact.NewInt(2)
	for power.Sub(exact.NewInt(1)).Mul(c[0].Last()).Cmp(most) <= 0 {
		power = power.Mul(two)
	}
	return power
}
