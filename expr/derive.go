package expr

import (
	"slices"

	"isocline/api"
	"isocline/rat"
)

// Derive returns an expression that is the partial derivative of e by EName of a name.
func Derive(e api.Expr, name string) (api.Expr, api.Errno) {
	if err := Validate(e); err != api.OK {
		return api.Expr{}, err
	}
	if err := derivable(e); err != api.OK {
		return api.Expr{}, err
	}
	all := names(e)
	i, found := slices.BinarySearch(all, name)
	if !found {
		return whole(0), api.OK
	}
	d := derive(e, name)
	if small(d) {
		if _, err := normal(d, all); err == api.OK {
			return copied(d), api.OK
		}
	}
	// What the rules say is too large, or is so in between: the derivative may be shorter written out.
	if f, err := writtenOut(e, all, i); err == api.OK {
		return f, api.OK
	}
	if small(d) {
		return copied(d), api.OK
	}
	return api.Expr{}, api.ErrLarge
}

// writtenOut returns the derivative by the name i of all names of e, made of the terms of its normal form.
func writtenOut(e api.Expr, all []string, i int) (api.Expr, api.Errno) {
	p, err := normal(e, all)
	if err != api.OK {
		return api.Expr{}, err
	}
	stand, l, err := told(p.Derive(i), all)
	if err != api.OK {
		return api.Expr{}, err
	}
	return made(stand, l)
}

// derivable returns why a valid expression has no normal form: its nodes, then its divisors, of which ErrType comes first.
func derivable(e api.Expr) api.Errno {
	if !every(e, normalNode) {
		return api.ErrType
	}
	all := forms(names(e))
	var met []api.Errno
	every(e, func(k api.Expr) bool {
		if k.Op == api.EDiv {
			p, err := all.of(k.Kids[1])
			if err == api.OK {
				_, err = divisor(p)
			}
			met = append(met, err)
		}
		return true
	})
	for _, err := range []api.Errno{api.ErrType, api.ErrFit, api.ErrLarge} {
		if slices.Contains(met, err) {
			return err
		}
	}
	return api.OK
}

// derive returns the derivative of an expression that is derivable, by the rules; parts of it may be shared.
func derive(e api.Expr, name string) api.Expr {
	switch e.Op {
	case api.EConst, api.EName, api.EDer, api.EPre:
		if e.Op == api.EName && e.Name == name {
			return whole(1)
		}
		return whole(0)
	}
	a := e.Kids[0]
	da := derive(a, name)
	switch e.Op {
	case api.ENeg:
		return difference(whole(0), da)
	case api.EPow:
		return times(times(whole(e.N.N), raised(a, e.N.N-1)), da)
	case api.EDiv:
		return over(da, e.Kids[1]) // a divisor is a number
	}
	b := e.Kids[1]
	db := derive(b, name)
	switch e.Op {
	case api.EAdd:
		return total(da, db)
	case api.ESub:
		return difference(da, db)
	}
	return total(times(da, b), times(a, db))
}

func whole(n int) api.Expr {
	return fixed(api.Rat{N: n, D: 1})
}

// is reports whether e is the number n itself.
func is(e api.Expr, n int) bool {
	return e.Op == api.EConst && e.N == api.Rat{N: n, D: 1}
}

// folded returns the number that two numbers make, and whether they are numbers and it is representable.
func folded(a, b api.Expr, by func(x, y api.Rat) (api.Rat, api.Errno)) (api.Expr, bool) {
	if a.Op != api.EConst || b.Op != api.EConst {
		return api.Expr{}, false
	}
	x, err := by(a.N, b.N)
	return fixed(x), err == api.OK
}

// total returns a + b.
func total(a, b api.Expr) api.Expr {
	if c, ok := folded(a, b, rat.Add); ok {
		return c
	}
	switch {
	case is(a, 0):
		return b
	case is(b, 0):
		return a
	}
	return node(api.EAdd, a, b)
}

// difference returns a - b.
func difference(a, b api.Expr) api.Expr {
	if c, ok := folded(a, b, rat.Sub); ok {
		return c
	}
	switch {
	case is(b, 0):
		return a
	case is(a, 0):
		return node(api.ENeg, b)
	}
	return node(api.ESub, a, b)
}

// times returns a * b, a number ahead of what is none.
func times(a, b api.Expr) api.Expr {
	if b.Op == api.EConst {
		a, b = b, a
	}
	if c, ok := folded(a, b, rat.Mul); ok {
		return c
	}
	switch {
	case is(a, 0):
		return a
	case is(a, 1):
		return b
	}
	if b.Op == api.EMul {
		if c, ok := folded(a, b.Kids[0], rat.Mul); ok {
			return node(api.EMul, c, b.Kids[1])
		}
	}
	return node(api.EMul, a, b)
}

// over returns a / b.
func over(a, b api.Expr) api.Expr {
	if is(a, 0) {
		return a
	}
	return node(api.EDiv, a, b)
}

// raised returns a to the power n; what it is for n below 0 is not asked.
func raised(a api.Expr, n int) api.Expr {
	switch {
	case n < 1:
		return whole(1)
	case n == 1:
		return a
	}
	return api.Expr{Op: api.EPow, N: api.Rat{N: n, D: 1}, Kids: []api.Expr{a}}
}
