package mat

import (
	"slices"

	"isocline/api"
	"isocline/exact"
)

// Reduce returns the reduced form and the columns of the pivots.
func Reduce(m api.Mat) (api.Mat, []int, api.Errno) {
	if e := Validate(m); e != api.OK {
		return api.Mat{}, nil, e
	}
	// The reduced form stays the same when rows are multiplied by their denominators.
	reduced, by, pivots := rows(lines(m.R, view{m}.row)).Reduce()
	r, e := made(m.R, m.C, func(i, j int) (api.Rat, api.Errno) { return exact.Number(reduced[i][j], by) })
	if e != api.OK {
		return api.Mat{}, nil, e
	}
	return r, pivots, api.OK
}

// Rank returns the number of pivots.
func Rank(m api.Mat) (int, api.Errno) {
	if e := Validate(m); e != api.OK {
		return 0, e
	}
	_, _, pivots := rows(lines(m.R, view{m}.row)).Reduce()
	return len(pivots), api.OK
}

// Det returns the determinant.
func Det(m api.Mat) (api.Rat, api.Errno) {
	if e := squareErrors(m); e != api.OK {
		return api.Rat{}, e
	}
	l := lines(m.R, view{m}.row)
	return exact.Number(rows(l).Det(), product(l))
}

// Inverse returns the inverse: ErrNone if there is none.
func Inverse(m api.Mat) (api.Mat, api.Errno) {
	if e := squareErrors(m); e != api.OK {
		return api.Mat{}, e
	}
	// The inverse stands beside the unit matrix in the reduced form of m beside the unit matrix.
	beside := lines(m.R, view{m}.row)
	for i, l := range beside {
		unit := make([]exact.Int, m.R)
		unit[i] = l.under
		beside[i].whole = slices.Concat(l.whole, unit)
	}
	reduced, by, pivots := rows(beside).Reduce()
	if m.R > 0 && pivots[m.R-1] >= m.C {
		return api.Mat{}, api.ErrNone
	}
	return made(m.R, m.C, func(i, j int) (api.Rat, api.Errno) { return exact.Number(reduced[i][m.C+j], by) })
}
