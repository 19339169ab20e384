package poly

import (
	"strconv"
	"strings"

	"isocline/api"
	"isocline/exact"
	"isocline/rat"
)

// Eval returns the value of p at x.
func Eval(p []api.Rat, x api.Rat) (api.Rat, api.Errno) {
	if e := Validate(p); e != api.OK {
		return api.Rat{}, e
	}
	if e := rat.Validate(x); e != api.OK {
		return api.Rat{}, e
	}
	value, e := of(p).after(constant(x)).numbers()
	if e != api.OK {
		return api.Rat{}, e
	}
	return at(value, 0), api.OK
}

// constant returns x as a polynomial.
func constant(x api.Rat) fraction {
	return of([]api.Rat{x})
}

// Compose returns p(q(t)).
func Compose(p, q []api.Rat) ([]api.Rat, api.Errno) {
	if e := bothErrors(p, q); e != api.OK {
		return nil, e
	}
	a, b := of(p), of(q)
	if a.Degree()*b.Degree() > api.MaxDeg {
		return nil, api.ErrLarge
	}
	return a.after(b).numbers()
}

// Interpolate returns the polynomial of a degree below the number of points with the value ys[i] at xs[i].
func Interpolate(xs, ys []api.Rat) ([]api.Rat, api.Errno) {
	if len(xs) > api.MaxDeg+1 || len(ys) > api.MaxDeg+1 {
		return nil, api.ErrLarge
	}
	if e := numberErrors(xs, ys); e != api.OK {
		return nil, e
	}
	if len(xs) != len(ys) || len(xs) == 0 {
		return nil, api.ErrFit
	}
	if hasTwice(xs) {
		return nil, api.ErrTwice
	}
	sum := of(nil)
	for i, y := range ys {
		sum = sum.add(through(xs, i, y))
	}
	return sum.numbers()
}

func hasTwice(l []api.Rat) bool {
	for i, x := range l {
		for _, y := range l[:i] {
			if x == y {
				return true
			}
		}
	}
	return false
}

// through returns the polynomial that has the value y at xs[i] and 0 at the others.
func through(xs []api.Rat, i int, y api.Rat) fraction {
	p := constant(y)
	n, d := exact.NewInt(xs[i].N), exact.NewInt(xs[i].D)
	for j, x := range xs {
		if j == i {
			continue
		}
		// The factor (t - x) / (xs[i] - x), with d * x.D above and below.
		low, step := exact.NewInt(x.N), exact.NewInt(x.D)
		line := exact.NewPoly([]exact.Int{low.Neg(), step}).Scale(d)
		p = fraction{p.Mul(line), p.under.Mul(n.Mul(step).Sub(low.Mul(d)))}
	}
	return p
}

// Print returns the terms that are not 0 from the highest degree down.
func Print(p []api.Rat) (string, api.Errno) {
	if e := Validate(p); e != api.OK {
		return "", e
	}
	if len(p) == 0 {
		return "0", api.OK
	}
	var b strings.Builder
	for degree, c := range terms(p) {
		first := degree == len(p)-1
		b.WriteString(sign(c.N < 0, first))
		term, e := printTerm(api.Rat{N: max(c.N, -c.N), D: c.D}, degree)
		if e != api.OK {
			return "", e
		}
		b.WriteString(term)
	}
	return b.String(), api.OK
}

// sign returns what stands ahead of a term.
func sign(negative, first bool) string {
	switch {
	case first && negative:
		return "-"
	case first:
		return ""
	case negative:
		return " - "
	default:
		return " + "
	}
}

// printTerm returns the text of c * t^degree, for c above 0.
func printTerm(c api.Rat, degree int) (string, api.Errno) {
	number, e := rat.Print(c)
	if e != api.OK || degree == 0 {
		return number, e
	}
	if c.N == c.D {
		return variable(degree), api.OK
	}
	return number + "*" + variable(degree), api.OK
}

// variable returns the text of t^degree, for a degree above 0.
func variable(degree int) string {
	if degree == 1 {
		return "t"
	}
	return "t^" + strconv.Itoa(degree)
}
