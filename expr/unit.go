package expr

import (
	"isocline/api"
	"isocline/unit"
)

// Unit returns the unit of a numeric expression by those of its names.
func Unit(e api.Expr, env []api.Sort) (api.Unit, api.Errno) {
	if err := Validate(e); err != api.OK {
		return api.Unit{}, err
	}
	name := func(s api.Sort) string { return s.Name }
	valid := func(s api.Sort) api.Errno { return unit.Validate(s.U) }
	known, err := table(env, name, valid)
	if err != api.OK {
		return api.Unit{}, err
	}
	if isCondition(e) {
		return api.Unit{}, api.ErrType
	}
	return units(known).of(e)
}

// units are the units of names.
type units map[string]api.Sort

// none is the unit of numbers; conditions have it, too, for lack of another.
func none() api.Unit {
	return api.Unit{F: api.Rat{N: 1, D: 1}}
}

// of returns the unit of a node, or the first trouble that is met.
func (u units) of(e api.Expr) (api.Unit, api.Errno) {
	kids := make([]api.Unit, len(e.Kids))
	for i, k := range e.Kids {
		of, err := u.of(k)
		if err != api.OK {
			return api.Unit{}, err
		}
		kids[i] = of
	}
	switch e.Op {
	case api.EName, api.EDer, api.EPre:
		return u.name(e)
	case api.ENeg, api.EAbs:
		return kids[0], api.OK
	case api.EMul:
		return unit.Mul(kids[0], kids[1])
	case api.EDiv:
		return unit.Div(kids[0], kids[1])
	case api.EPow:
		return unit.Power(kids[0], e.N.N)
	case api.EAdd, api.ESub, api.EMin, api.EMax:
		return agreed(e.Kids, kids)
	case api.EIf:
		return agreed(e.Kids[1:], kids[1:])
	case api.ELess, api.ELeq:
		_, err := agreed(e.Kids, kids)
		return none(), err
	}
	return none(), api.OK
}

func (u units) name(e api.Expr) (api.Unit, api.Errno) {
	s, ok := u[e.Name]
	if !ok {
		return api.Unit{}, api.ErrNone
	}
	if e.Op == api.EDer {
		return unit.Div(s.U, api.Unit{E: [7]int{0, 0, 1}, F: api.Rat{N: 1, D: 1}})
	}
	return s.U, api.OK
}

// agreed returns the one unit that two kids have: ErrFit if they differ; the number 0 takes that of the other one.
func agreed(kids []api.Expr, of []api.Unit) (api.Unit, api.Errno) {
	switch {
	case of[0] == of[1], is(kids[1], 0):
		return of[0], api.OK
	case is(kids[0], 0):
		return of[1], api.OK
	}
	return api.Unit{}, api.ErrFit
}
