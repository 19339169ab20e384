package exact

import (
	"slices"

	"isocline/api"
)

// Poly is a polynomial with whole coefficients, the constant term first; the last one is not 0, and zero is empty.
// Its coefficients are never changed once it has been made, so that several polynomials may share them.
type Poly []Int

// NewPoly returns the polynomial with these coefficients, without the noughts at the top; it keeps the list.
func NewPoly(l []Int) Poly {
	for len(l) > 0 && l[len(l)-1].Sign() == 0 {
		l = l[:len(l)-1]
	}
	return l
}

// Common returns whole coefficients and their common denominator, above 0: over it they are the numbers of p.
func Common(p []api.Rat) (Poly, Int) {
	l, under := Share(p)
	return NewPoly(l), under
}

// Through returns the polynomial of a degree below the number of values that has them at 0, 1, 2 and so on.
// Its coefficients are whole.
func Through(values []Int) Poly {
	l := slices.Clone(values)
	// Newton's form: l[i] becomes the difference of i + 1 values, divided by i!; with whole coefficients it is whole.
	for k := 1; k < len(l); k++ {
		for i := len(l) - 1; i >= k; i-- {
			l[i] = l[i].Sub(l[i-1]).Quo(NewInt(k))
		}
	}
	var p Poly
	for i := len(l) - 1; i >= 0; i-- {
		line := Poly{NewInt(-i), NewInt(1)}
		p = p.Mul(line).Add(NewPoly([]Int{l[i]}))
	}
	return p
}

// Degree returns the degree, that of zero as -1.
func (p Poly) Degree() int {
	return len(p) - 1
}

// Last returns the last coefficient; p is not zero.
func (p Poly) Last() Int {
	return p[len(p)-1]
}

// at returns the coefficient of t^i.
func (p Poly) at(i int) Int {
	if i < len(p) {
		return p[i]
	}
	return Int{}
}

// each returns the polynomial of what the coefficients become.
func (p Poly) each(become func(Int) Int) Poly {
	l := make([]Int, len(p))
	for i, c := range p {
		l[i] = become(c)
	}
	return NewPoly(l)
}

// Scale returns k * p.
func (p Poly) Scale(k Int) Poly {
	return p.each(k.Mul)
}

// over returns p / k, for k that divides all coefficients.
func (p Poly) over(k Int) Poly {
	return p.each(func(c Int) Int { return c.Quo(k) })
}

// Add returns p + q.
func (p Poly) Add(q Poly) Poly {
	l := make([]Int, max(len(p), len(q)))
	for i := range l {
		l[i] = p.at(i).Add(q.at(i))
	}
	return NewPoly(l)
}

// Sub returns p - q.
func (p Poly) Sub(q Poly) Poly {
	return p.Add(q.each(Int.Neg))
}

// Mul returns p * q.
func (p Poly) Mul(q Poly) Poly {
	l := make([]Int, len(p)+len(q))
	for i, c := range p {
		for j, d := range q {
			l[i+j] = l[i+j].Add(c.Mul(d))
		}
	}
	return NewPoly(l)
}

// Value returns the value at n/d, times d to the power of the degree; that of zero is 0.
func (p Poly) Value(n, d Int) Int {
	var sum Int
	unit := NewInt(1)
	for i := p.Degree(); i >= 0; i-- {
		sum = sum.Mul(n).Add(p[i].Mul(unit))
		unit = unit.Mul(d)
	}
	return sum
}

// Derive returns the derivative.
func (p Poly) Derive() Poly {
	var l []Int
	for i := 1; i < len(p); i++ {
		l = append(l, p[i].Mul(NewInt(i)))
	}
	return NewPoly(l)
}

// Div returns k, quotient and rest with k * p = quotient * q + rest, the rest of lesser degree than q, which is not zero.
// k is a power of the last coefficient of q, so that all coefficients are whole.
func (p Poly) Div(q Poly) (k Int, quotient, rest Poly) {
	k = q.Last().Power(max(len(p)-len(q)+1, 0))
	quotient, rest = p.Scale(k).divide(q)
	return k, quotient, rest
}

// Quo returns p / q, for q that divides p with whole coefficients.
func (p Poly) Quo(q Poly) Poly {
	quotient, _ := p.divide(q)
	return quotient
}

// divide returns quotient and rest, for p such that both have whole coefficients.
func (p Poly) divide(q Poly) (quotient, rest Poly) {
	left := slices.Clone(p)
	l := make([]Int, max(len(p)-len(q)+1, 0))
	for i := len(l) - 1; i >= 0; i-- {
		l[i] = left[i+q.Degree()].Quo(q.Last())
		for j, c := range q {
			left[i+j] = left[i+j].Sub(l[i].Mul(c))
		}
	}
	return NewPoly(l), NewPoly(left)
}

// Primitive returns the primitive polynomial that is a multiple of p, and the whole number times which it is p; p is not zero.
func (p Poly) Primitive() (Poly, Int) {
	var content Int
	for _, c := range p {
		content = content.Gcd(c)
	}
	if p.Last().Sign() < 0 {
		content = content.Neg()
	}
	return p.over(content), content
}
