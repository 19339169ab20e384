package root

import (
	"cmp"

	"isocline/api"
	"isocline/exact"
)

// Positive returns how many of the complex roots, with multiplicities, have a real part above 0, equal to 0, and below 0.
//
// While y goes through all real numbers, from below to above, the value of p at i*y makes half a turn to the left for each root
// below 0, and to the right for each root above 0: the remainders of its two parts tell how many more to the left.
// What both parts have in common makes no turn: it has all roots with a real part of 0, and else as many below 0 as above 0.
func Positive(p []api.Rat) (int, int, int, api.Errno) {
	if e := alone(p, api.OK); e != api.OK {
		return 0, 0, 0, e
	}
	whole, _ := exact.Common(p)
	high, low, side := alongAxis(whole)
	row := high.Remainders(low)
	left := side * lost(row)
	zero := 0
	common, _ := row[len(row)-1].Primitive()
	for _, q := range append(repeated(common), common) {
		zero += sturm(q).total()
	}
	others := whole.Degree() - zero
	return (others - left) / 2, zero, (others + left) / 2, api.OK
}

// alongAxis returns the real and the imaginary part of p(i*y), which is not zero, as polynomials in y:
// first the one of the higher degree. With side 1 this is the imaginary part, with -1 the real part.
func alongAxis(p exact.Poly) (high, low exact.Poly, side int) {
	parts := [2][]exact.Int{make([]exact.Int, len(p)), make([]exact.Int, len(p))}
	for i, c := range p {
		if i%4 >= 2 {
			c = c.Neg()
		}
		parts[i%2][i] = c
	}
	high, low = exact.NewPoly(parts[0]), exact.NewPoly(parts[1])
	if high.Degree() > low.Degree() {
		return high, low, -1
	}
	return low, high, 1
}

// Variations returns the number of changes of sign in the row of the coefficients that are not 0.
func Variations(p []api.Rat) (int, api.Errno) {
	if e := alone(p, api.OK); e != api.OK {
		return 0, e
	}
	return changes(p, func(c api.Rat) int { return cmp.Compare(c.N, 0) }), api.OK
}
