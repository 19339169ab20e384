package expr

import (
	"slices"

	"isocline/api"
	"isocline/exact"
)

// Terms returns the normal form of an expression: the names that stand in it, ascending, and its terms, their exponents descending.
func Terms(e api.Expr) ([]string, []api.Term, api.Errno) {
	if err := Validate(e); err != api.OK {
		return nil, nil, err
	}
	return terms(e)
}

// terms returns Terms of a valid expression.
func terms(e api.Expr) ([]string, []api.Term, api.Errno) {
	all := names(e)
	p, err := normal(e, all)
	if err != api.OK {
		return nil, nil, err
	}
	return told(p, all)
}

// told returns the names that stand in a polynomial, and its terms in these: ErrLarge if a coefficient is not representable.
func told(p exact.Many, names []string) ([]string, []api.Term, api.Errno) {
	var stand []int
	var kept []string
	for i, name := range names {
		if slices.ContainsFunc(p, func(t exact.Term) bool { return t.X[i] > 0 }) {
			stand = append(stand, i)
			kept = append(kept, name)
		}
	}
	var l []api.Term
	for _, t := range p {
		c, err := t.C.Rat()
		if err != api.OK {
			return nil, nil, err
		}
		x := make([]int, len(stand))
		for k, i := range stand {
			x[k] = int(t.X[i])
		}
		l = append(l, api.Term{C: c, X: x})
	}
	return kept, l, api.OK
}

// Affine returns the coefficient of each of the names in the normal form, and its constant, and whether it is no more than these.
func Affine(e api.Expr, names []string) ([]api.Rat, api.Rat, bool, api.Errno) {
	if err := Validate(e); err != api.OK {
		return nil, api.Rat{}, false, err
	}
	at := map[string]int{}
	for i, name := range names {
		if _, twice := at[name]; twice {
			return nil, api.Rat{}, false, api.ErrTwice
		}
		at[name] = i
	}
	stand, l, err := terms(e)
	if err != api.OK {
		return nil, api.Rat{}, false, err
	}
	nought := api.Rat{N: 0, D: 1}
	row, rest := slices.Repeat([]api.Rat{nought}, len(names)), nought
	for _, t := range l {
		k, degree := only(t.X)
		if degree == 0 {
			rest = t.C
			continue
		}
		i, listed := at[stand[k]]
		if degree > 1 || !listed {
			return nil, api.Rat{}, false, api.OK
		}
		row[i] = t.C
	}
	return row, rest, true, api.OK
}

// only returns the number of a name with an exponent above 0, and the sum of the exponents.
func only(x []int) (name, degree int) {
	for i, n := range x {
		if n > 0 {
			name = i
		}
		degree += n
	}
	return name, degree
}

// Same reports whether both expressions have the same normal form.
func Same(e, f api.Expr) (bool, api.Errno) {
	if err := bothErrors(e, f); err != api.OK {
		return false, err
	}
	names, l, err := terms(e)
	if err != api.OK {
		return false, err
	}
	others, m, err := terms(f)
	if err != api.OK {
		return false, err
	}
	return slices.Equal(names, others) && slices.EqualFunc(l, m, sameTerm), api.OK
}

func sameTerm(s, t api.Term) bool {
	return s.C == t.C && slices.Equal(s.X, t.X)
}

// normal returns the normal form of a valid expression in these names, which are at least its own, or the first trouble that is met.
func normal(e api.Expr, names []string) (exact.Many, api.Errno) {
	if !every(e, normalNode) {
		return nil, api.ErrType
	}
	return forms(names).of(e)
}

// normalNode reports whether a node is one of which normal forms are made.
func normalNode(e api.Expr) bool {
	switch e.Op {
	case api.EConst, api.EName, api.EDer, api.EPre, api.ENeg, api.EAdd, api.ESub, api.EMul, api.EDiv:
		return true
	}
	return e.Op == api.EPow && e.N.N >= 0
}

// forms are the names, ascending, in which normal forms are polynomials.
type forms []string

// of returns the normal form of a node, or the first trouble that is met.
func (f forms) of(e api.Expr) (exact.Many, api.Errno) {
	kids := make([]exact.Many, len(e.Kids))
	for i, k := range e.Kids {
		p, err := f.of(k)
		if err != api.OK {
			return nil, err
		}
		kids[i] = p
	}
	p, err := f.node(e, kids)
	if err == api.OK && !fits(p) {
		return nil, api.ErrLarge
	}
	return p, err
}

// node returns the normal form of a node by those of its kids.
func (f forms) node(e api.Expr, kids []exact.Many) (exact.Many, api.Errno) {
	switch e.Op {
	case api.EConst:
		return f.fixed(e.N), api.OK
	case api.ENeg:
		return kids[0].Scale(exact.Whole(-1)), api.OK
	case api.EAdd:
		return kids[0].Add(kids[1]), api.OK
	case api.ESub:
		return kids[0].Sub(kids[1]), api.OK
	case api.EMul:
		return product(kids[0], kids[1])
	case api.EDiv:
		by, err := divisor(kids[1])
		if err != api.OK {
			return nil, err
		}
		return kids[0].Scale(by.Inverse()), api.OK
	case api.EPow:
		return f.power(kids[0], e.N.N)
	}
	i, _ := slices.BinarySearch(f, asked(e))
	return exact.Unknown(i, len(f)), api.OK
}

func (f forms) fixed(x api.Rat) exact.Many {
	return exact.Fixed(exact.Of(x), len(f))
}

// fits reports whether a polynomial is within the limits of normal forms.
func fits(p exact.Many) bool {
	return len(p) <= api.MaxTerms && p.Degree() <= api.MaxDeg && p.Bits() <= maxBits
}

// divisor returns the number that a polynomial is: ErrType if it has names, ErrFit if it is 0.
func divisor(p exact.Many) (exact.Ratio, api.Errno) {
	switch {
	case p.Degree() > 0:
		return exact.Ratio{}, api.ErrType
	case len(p) == 0:
		return exact.Ratio{}, api.ErrFit
	}
	return p[0].C, api.OK
}

// product returns p * q: ErrLarge by the degree ahead of the terms, as degrees are added.
func product(p, q exact.Many) (exact.Many, api.Errno) {
	if len(p) > 0 && len(q) > 0 && p.Degree()+q.Degree() > api.MaxDeg {
		return nil, api.ErrLarge
	}
	return p.Mul(q), api.OK
}

// power returns p to the power n, from 0 up: ErrLarge as soon as that is sure.
func (f forms) power(p exact.Many, n int) (exact.Many, api.Errno) {
	switch {
	case n == 0:
		return f.fixed(api.Rat{N: 1, D: 1}), api.OK
	case n == 1 || len(p) == 0:
		return p, api.OK
	case n*p.Degree() > api.MaxDeg:
		return nil, api.ErrLarge
	}
	var q exact.Many
	for t := range p.Power(n) {
		if len(q) == api.MaxTerms || t.C.Bits() > maxBits {
			return nil, api.ErrLarge
		}
		q = append(q, t)
	}
	return q, api.OK
}
