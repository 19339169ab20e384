package flat

import (
	"isocline/api"
	"isocline/expr"
	"isocline/unit"
)

// Units returns the number of the first equation that is not right in its units, -1 if there is none: the errors of expr.Unit but ErrFit, of the equations ahead of that one.
func Units(f api.Flat) (int, api.Errno) {
	if err := Validate(f); err != api.OK {
		return 0, err
	}
	of := map[string]api.Unit{timeName: {E: [7]int{0, 0, 1}, F: api.Rat{N: 1, D: 1}}}
	for _, v := range f.Vars {
		if v.Unit != "" {
			of[v.Name], _ = unit.Parse(v.Unit) // a valid model has texts of units
		}
	}
	for i, q := range f.Eqs {
		right, err := agree(of, q)
		if err != api.OK {
			return 0, err
		}
		if !right {
			return i, api.OK
		}
	}
	return -1, api.OK
}

// agree reports whether an equation is right in its units.
func agree(of map[string]api.Unit, q api.Eq) (bool, api.Errno) {
	var units []api.Unit
	for _, e := range []api.Expr{q.L, q.R} {
		u, err := expr.Unit(e, sorts(of, e))
		if err == api.ErrFit {
			return false, api.OK
		}
		if err != api.OK {
			return false, err
		}
		units = append(units, u)
	}
	return units[0] == units[1] || isNought(q.L) || isNought(q.R), api.OK
}

// isNought reports whether an expression is the number 0, which may have any unit.
func isNought(e api.Expr) bool {
	return e.Op == api.EConst && e.N.N == 0
}

// sorts returns the units of the names in an expression alone: with the time there may be more names than expr takes.
func sorts(of map[string]api.Unit, e api.Expr) []api.Sort {
	var l []api.Sort
	met := map[string]bool{}
	var add func(e api.Expr)
	add = func(e api.Expr) {
		if u, is := of[e.Name]; is && !met[e.Name] {
			met[e.Name] = true
			l = append(l, api.Sort{Name: e.Name, U: u})
		}
		for _, k := range e.Kids {
			add(k)
		}
	}
	add(e)
	return l
}
