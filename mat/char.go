package mat

import (
	"isocline/api"
	"isocline/exact"
)

// Char returns the characteristic polynomial.
func Char(m api.Mat) ([]api.Rat, api.Errno) {
	if e := squareErrors(m); e != api.OK {
		return nil, e
	}
	p, under := characteristic(m)
	return numbers(len(p), func(i int) (exact.Int, exact.Int) { return p[i], under })
}

// numbers returns the polynomial whose coefficients are the quotients, or ErrLarge.
func numbers(n int, quotient func(int) (exact.Int, exact.Int)) ([]api.Rat, api.Errno) {
	l := make([]api.Rat, n)
	for i := range l {
		var e api.Errno
		if l[i], e = exact.Number(quotient(i)); e != api.OK {
			return nil, e
		}
	}
	return l, api.OK
}

// characteristic returns the characteristic polynomial of m, which is square, times a number, and this number, which is above 0.
func characteristic(m api.Mat) (exact.Poly, exact.Int) {
	l := lines(m.R, view{m}.row)
	values := make([]exact.Int, m.R+1)
	for t := range values {
		g := rows(l).Each(exact.Int.Neg)
		for i, x := range l {
			g[i][i] = g[i][i].Add(x.under.Mul(exact.NewInt(t)))
		}
		values[t] = g.Det()
	}
	return exact.Through(values), product(l)
}

// Minimal returns the monic polynomial of least degree that is zero at m.
func Minimal(m api.Mat) ([]api.Rat, api.Errno) {
	if e := squareErrors(m); e != api.OK {
		return nil, e
	}
	at := independent(m)
	if len(at) == m.R {
		return Char(m) // the degree of the minimal polynomial is at least len(at)
	}
	return relation(of(m), at)
}

// place is the place of a number in a matrix.
type place struct {
	row, column int
}

// independent returns places at which the powers of m from the one with n = 0 on, as many as there are places, are
// linearly independent, those modulo the prime of the field and therefore those of m too.
func independent(m api.Mat) []place {
	f := newField()
	base := f.matrix(m)
	var at []place
	var reduced []exact.Grid // powers from which those before are taken away: 1 at their own place, 0 at those before
	for power := exact.Unit(m.R); ; power = f.mul(power, base) {
		rest := power
		for k, r := range reduced {
			by := rest[at[k].row][at[k].column]
			rest = combine(rest, r, func(x, y exact.Int) exact.Int { return f.mod(x.Sub(by.Mul(y))) })
		}
		p, found := firstOther(rest)
		if !found {
			return at
		}
		inverse := f.inverse(rest[p.row][p.column])
		reduced = append(reduced, rest.Each(func(x exact.Int) exact.Int { return f.mod(x.Mul(inverse)) }))
		at = append(at, p)
	}
}

// combine returns what the numbers of g and h, which is as large, become.
func combine(g, h exact.Grid, become func(x, y exact.Int) exact.Int) exact.Grid {
	made := make(exact.Grid, len(g))
	for i, row := range g {
		for j, x := range row {
			made[i] = append(made[i], become(x, h[i][j]))
		}
	}
	return made
}

// firstOther returns the first place of a number that is not 0, and whether there is one.
func firstOther(g exact.Grid) (place, bool) {
	for i, row := range g {
		for j, x := range row {
			if x.Sign() != 0 {
				return place{i, j}, true
			}
		}
	}
	return place{}, false
}

// relation returns the minimal polynomial of f. At the places, as many powers of f as there are places are independent.
func relation(f fraction, at []place) ([]api.Rat, api.Errno) {
	powers := []exact.Grid{exact.Unit(len(f.Grid))} // those of the whole numbers
	for {
		for len(powers) <= len(at) {
			powers = append(powers, powers[len(powers)-1].Mul(f.Grid))
		}
		c := combination(powers, at)
		p, found := firstOther(total(powers, c))
		if !found {
			last := len(c) - 1
			return numbers(len(c), func(i int) (exact.Int, exact.Int) { return c[i], c[last].Mul(f.under.Power(last - i)) })
		}
		at = append(at, p)
	}
}

// combination returns numbers with which the powers, one more than places, add up to 0 at the places; the last one is not 0.
func combination(powers []exact.Grid, at []place) []exact.Int {
	equations := make(exact.Grid, len(at))
	for i, p := range at {
		for _, g := range powers {
			equations[i] = append(equations[i], g[p.row][p.column])
		}
	}
	var c []exact.Int
	reduced, by, _ := equations.Reduce()
	for _, row := range reduced {
		c = append(c, row[len(at)].Neg())
	}
	return append(c, by)
}

// total returns the sum of the powers, each times its number.
func total(powers []exact.Grid, c []exact.Int) exact.Grid {
	sum := powers[0].Each(c[0].Mul)
	for k := 1; k < len(powers); k++ {
		sum = combine(sum, powers[k], func(x, y exact.Int) exact.Int { return x.Add(c[k].Mul(y)) })
	}
	return sum
}
