package exact

// sequence goes through remainders of two polynomials, the subresultants: those of a Euclidean algorithm, each of them
// divided by a whole number that is known ahead. So the coefficients stay as short as determinants of those at the
// beginning, and common divisors of them are not needed.
type sequence struct {
	a, b Poly // two that follow each other, the degree of a at least that of b
	g, h Int  // what the next divisor is made of
}

func newSequence(a, b Poly) *sequence {
	one := NewInt(1)
	return &sequence{a: a, b: b, g: one, h: one}
}

// next goes on by one remainder, for b that is not zero: the new b is (k * a - quotient * b) / by.
func (s *sequence) next() (k Int, quotient Poly, by Int) {
	drop := s.a.Degree() - s.b.Degree()
	k, quotient, rest := s.a.Div(s.b)
	by = s.g.Mul(s.h.Power(drop))
	s.a, s.b = s.b, rest.over(by)
	s.g = s.a.Last()
	if drop > 0 {
		s.h = s.g.Power(drop).Quo(s.h.Power(drop - 1))
	}
	return k, quotient, by
}

// Remainders returns a row of polynomials that begins with p and q: what follows two of them is their remainder times
// some number below 0. The last one, which is not zero, is a greatest common divisor. The degree of p is at least that of q.
func (p Poly) Remainders(q Poly) []Poly {
	row := []Poly{p}
	s := newSequence(p, q)
	signA, signB := 1, 1 // with these signs, a and b of the sequence are members of the row
	for len(s.b) > 0 {
		row = append(row, s.b.Scale(NewInt(signB)))
		k, _, by := s.next()
		signA, signB = signB, -signA*k.Sign()*by.Sign()
	}
	return row
}

// Gcd returns the primitive greatest common divisor, zero if both are zero.
func (p Poly) Gcd(q Poly) Poly {
	if p.Degree() < q.Degree() {
		p, q = q, p
	}
	if len(p) == 0 {
		return nil
	}
	s := newSequence(p, q)
	for len(s.b) > 0 {
		s.next()
	}
	// The last coefficient of the divisor divides those of p and q: with theirs the others are short and still whole.
	g := s.a
	if len(q) > 0 {
		g = g.Scale(p.Last().Gcd(q.Last())).over(g.Last())
	}
	primitive, _ := g.Primitive()
	return primitive
}

// Resultant returns the resultant, 0 if p or q is zero.
func (p Poly) Resultant(q Poly) Int {
	if p.Degree() < q.Degree() {
		return turned(p, q, q.Resultant(p))
	}
	if len(q) == 0 {
		return Int{}
	}
	s := newSequence(p, q)
	sign := NewInt(1)
	for s.b.Degree() > 0 {
		sign = turned(s.a, s.b, sign)
		s.next()
	}
	if len(s.b) == 0 {
		return Int{}
	}
	n := s.a.Degree()
	return sign.Mul(s.b.Last().Power(n)).Quo(s.h.Power(max(n-1, 0)))
}

// turned returns x with the sign that it has when the resultant of p and q is made from that of q and p.
func turned(p, q Poly, x Int) Int {
	if p.Degree()%2 != 0 && q.Degree()%2 != 0 {
		return x.Neg()
	}
	return x
}

// Bezout returns u, v and g with u * p + v * q = g, a greatest common divisor of p and q, which are not both zero.
// The degrees of u and v are below those of q / g and p / g; but if p or q is a multiple of the other one,
// this other one is g, and u and v are 0 and 1 or 1 and 0: 0 and 1 if each is a multiple of the other.
func (p Poly) Bezout(q Poly) (u, v, g Poly) {
	if p.Degree() < q.Degree() {
		v, u, g = q.Bezout(p)
		return u, v, g
	}
	one := Poly{NewInt(1)}
	s := newSequence(p, q)
	var nextU, nextV Poly
	u, v, nextU, nextV = one, nil, nil, one
	for len(s.b) > 0 {
		k, quotient, by := s.next()
		after := func(x, y Poly) Poly { return x.Scale(k).Sub(quotient.Mul(y)).over(by) }
		u, nextU = nextU, after(u, nextU)
		v, nextV = nextV, after(v, nextV)
	}
	return u, v, s.a
}
