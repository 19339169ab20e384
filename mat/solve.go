package mat

import (
	"slices"

	"isocline/api"
	"isocline/exact"
)

// system is the reduced form, times by, of a system of linear equations: the right sides are its last column.
type system struct {
	reduced  exact.Grid
	by       exact.Int
	pivots   []int
	unknowns int
}

func newSystem(equations exact.Grid, unknowns int) system {
	reduced, by, pivots := equations.Reduce()
	return system{reduced, by, pivots, unknowns}
}

// contradicts reports whether one of the equations has come to be 0 = 1.
func (s system) contradicts() bool {
	return slices.Contains(s.pivots, s.unknowns)
}

// solution returns the solution with 0 at the columns without a pivot; the system has one.
func (s system) solution() ([]api.Rat, api.Errno) {
	x := noughts(s.unknowns)
	for i, p := range s.pivots {
		var e api.Errno
		if x[p], e = exact.Number(s.reduced[i][s.unknowns], s.by); e != api.OK {
			return nil, e
		}
	}
	return x, api.OK
}

func noughts(n int) []api.Rat {
	return slices.Repeat([]api.Rat{{N: 0, D: 1}}, n)
}

// kernel returns for each column without a pivot what solves the equations with right sides 0 and has 1 there.
func (s system) kernel() ([][]api.Rat, api.Errno) {
	var basis [][]api.Rat
	for column := range s.unknowns {
		if slices.Contains(s.pivots, column) {
			continue
		}
		x := noughts(s.unknowns)
		x[column].N = 1
		for i, p := range s.pivots {
			var e api.Errno
			if x[p], e = exact.Number(s.reduced[i][column].Neg(), s.by); e != api.OK {
				return nil, e
			}
		}
		basis = append(basis, x)
	}
	return basis, api.OK
}

// sides returns the rows of m with those of b behind them, or the first error of the arguments.
func sides(m api.Mat, b []api.Rat) ([]line, api.Errno) {
	if e := Validate(m); e != api.OK {
		return nil, e
	}
	if e := numberErrors(b); e != api.OK {
		return nil, e
	}
	if len(b) != m.R {
		return nil, api.ErrFit
	}
	return lines(m.R, func(i int) []api.Rat { return append(view{m}.row(i), b[i]) }), api.OK
}

// Solve returns a solution of m * x = b and a basis of the kernel of m: ErrNone if there is no solution.
func Solve(m api.Mat, b []api.Rat) ([]api.Rat, [][]api.Rat, api.Errno) {
	l, e := sides(m, b)
	if e != api.OK {
		return nil, nil, e
	}
	s := newSystem(rows(l), m.C)
	if s.contradicts() {
		return nil, nil, api.ErrNone
	}
	x, e := s.solution()
	if e != api.OK {
		return nil, nil, e
	}
	basis, e := s.kernel()
	if e != api.OK {
		return nil, nil, e
	}
	return x, basis, api.OK
}

// Refute returns y with y * m = 0 and the sum of y[i] * b[i] equal to 1, and true, if m * x = b has no solution.
func Refute(m api.Mat, b []api.Rat) ([]api.Rat, bool, api.Errno) {
	l, e := sides(m, b)
	if e != api.OK {
		return nil, false, e
	}
	all := make([]int, m.R)
	for i := range all {
		all[i] = i
	}
	y, found, e := refutation(l, m.C, all)
	if e == api.ErrLarge {
		return shortRefutation(l, m.C)
	}
	return y, found, e
}

// shortRefutation returns one of two rows, or ErrLarge: where rows contradict each other plainly, that is told
// even if another combination is not representable.
func shortRefutation(l []line, columns int) ([]api.Rat, bool, api.Errno) {
	for i := range l {
		for j := range i {
			y, found, e := refutation(l, columns, []int{j, i})
			if e == api.OK && found {
				return y, true, api.OK
			}
		}
	}
	return nil, false, api.ErrLarge
}

// refutation returns the y of Refute with 0 besides the rows of use, and whether there is one.
func refutation(l []line, columns int, use []int) ([]api.Rat, bool, api.Errno) {
	equations := make(exact.Grid, columns+1) // one for each column, and the last one for the right sides
	for j := range equations {
		equations[j] = make([]exact.Int, len(use)+1)
		for k, i := range use {
			equations[j][k] = l[i].whole[j]
		}
	}
	equations[columns][len(use)] = exact.NewInt(1)
	s := newSystem(equations, len(use))
	if s.contradicts() {
		return nil, false, api.OK
	}
	y := noughts(len(l))
	for k, p := range s.pivots {
		var e api.Errno
		// What stands for row i is a multiple of it, by its denominator.
		i := use[p]
		if y[i], e = exact.Number(s.reduced[k][len(use)].Mul(l[i].under), s.by); e != api.OK {
			return nil, false, e
		}
	}
	return y, true, api.OK
}
