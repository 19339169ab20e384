package flat

import (
	"isocline/api"
	"isocline/exact"
	"isocline/expr"
)

// maxBits is how many binary digits numerators and denominators may have in between, as in package expr.
const maxBits = 4096

// Holds reports whether the equations of a flat model hold in the values of names, and else which one is the first that does not: the errors of env, then ErrNone, ErrFit and ErrLarge of the equations.
func Holds(f api.Flat, env []api.Bind) (bool, int, api.Errno) {
	if err := Validate(f); err != api.OK {
		return false, 0, err
	}
	known, err := values(f.Vars, env)
	if err != api.OK {
		return false, 0, err
	}
	return reading{known, itself}.all(f.Eqs)
}

// Plain reports whether the equations of a class and of its components hold, each read in its own class: Flatten's errors, then those of Holds.
func Plain(lib []api.Class, name string, env []api.Bind) (bool, api.Errno) {
	w, f, t := flatten(lib, name)
	if t.err != api.OK {
		return false, t.err
	}
	known, err := values(f.Vars, env)
	if err != api.OK {
		return false, err
	}
	for _, p := range w.done {
		if yes, _, err := (reading{known, p.full}).all(p.whole.Eqs); !yes {
			return false, err
		}
	}
	return true, api.OK
}

// envError returns the error of an environment, as expr has it.
func envError(env []api.Bind) api.Errno {
	_, err := expr.Value(api.Expr{Op: api.EConst, N: api.Rat{N: 0, D: 1}}, env)
	return err
}

// values returns the values of env and those of the parameters by the texts that expressions ask for: the errors of env, ErrNone for a name that may not be in it.
func values(vars []api.Var, env []api.Bind) (map[string]exact.Ratio, api.Errno) {
	if err := envError(env); err != api.OK {
		return nil, err
	}
	may := map[string]bool{timeName: true}
	for _, v := range vars {
		may[v.Name] = v.Var != api.VParam
		may[asked(api.EDer, v.Name)] = true
		may[asked(api.EPre, v.Name)] = true
	}
	known := map[string]exact.Ratio{}
	for _, b := range env {
		if !may[b.Name] {
			return nil, api.ErrNone
		}
		known[b.Name] = exact.Of(b.V)
	}
	for _, b := range params(vars) {
		known[b.Name] = exact.Of(b.V)
	}
	return known, api.OK
}

// asked returns the text of an environment that a node with a name asks for.
func asked(op int, name string) string {
	switch op {
	case api.EDer:
		return "der(" + name + ")"
	case api.EPre:
		return "pre(" + name + ")"
	}
	return name
}

// reading evaluates sides of equations to values of any size, where expr has only those that are representable.
type reading struct {
	known map[string]exact.Ratio
	full  func(string) string // the full names of those in the equations
}

// all reports whether all equations that are not Init hold; the first one that does not, or that has an error, decides.
func (r reading) all(eqs []api.Eq) (bool, int, api.Errno) {
	for i, q := range eqs {
		if q.Init {
			continue
		}
		sides, err := r.values([]api.Expr{q.L, q.R})
		if err != api.OK {
			return false, 0, err
		}
		if sides[0].Cmp(sides[1]) != 0 {
			return false, i, api.OK
		}
	}
	return true, 0, api.OK
}

// values returns the values of expressions, or the first trouble that is met from the left.
func (r reading) values(l []api.Expr) ([]exact.Ratio, api.Errno) {
	var v []exact.Ratio
	for _, e := range l {
		x, err := r.value(e)
		if err == api.OK && x.Bits() > maxBits {
			err = api.ErrLarge
		}
		if err != api.OK {
			return nil, err
		}
		v = append(v, x)
	}
	return v, api.OK
}

// value returns the value of a numeric node, however long it is.
func (r reading) value(e api.Expr) (exact.Ratio, api.Errno) {
	switch e.Op {
	case api.EConst:
		return exact.Of(e.N), api.OK
	case api.EName, api.EDer, api.EPre:
		x, is := r.known[asked(e.Op, r.full(e.Name))]
		if !is {
			return x, api.ErrNone
		}
		return x, api.OK
	case api.EIf:
		yes, err := r.truth(e.Kids[0])
		if err != api.OK {
			return exact.Ratio{}, err
		}
		kid := e.Kids[2]
		if yes {
			kid = e.Kids[1]
		}
		return r.value(kid)
	}
	v, err := r.values(e.Kids)
	if err != api.OK {
		return exact.Ratio{}, err
	}
	return result(e, v)
}

// result returns the value of a node whose kids have the values v: ErrFit for a division by 0.
func result(e api.Expr, v []exact.Ratio) (exact.Ratio, api.Errno) {
	x, y := v[0], v[len(v)-1]
	if y.Sign() == 0 && (e.Op == api.EDiv || e.Op == api.EPow && e.N.N < 0) {
		return x, api.ErrFit
	}
	switch e.Op {
	case api.EAdd:
		return x.Add(y), api.OK
	case api.ESub:
		return x.Sub(y), api.OK
	case api.EMul:
		return x.Mul(y), api.OK
	case api.EDiv:
		return x.Quo(y), api.OK
	case api.EPow:
		return x.Power(e.N.N), api.OK
	case api.ENeg:
		return x.Neg(), api.OK
	}
	return chosen(e.Op, x, y), api.OK
}

// chosen returns EAbs of x, or EMin or EMax of x and y.
func chosen(op int, x, y exact.Ratio) exact.Ratio {
	if op == api.EAbs {
		op, y = api.EMax, x.Neg()
	}
	if (x.Cmp(y) < 0) == (op == api.EMin) {
		return x
	}
	return y
}

// truth returns the value of a condition, or the first trouble that is met, and then false.
func (r reading) truth(e api.Expr) (bool, api.Errno) {
	switch e.Op {
	case api.ENot:
		yes, err := r.truth(e.Kids[0])
		return err == api.OK && !yes, err
	case api.EAnd, api.EOr:
		yes, err := r.truth(e.Kids[0])
		if err != api.OK || yes == (e.Op == api.EOr) {
			return yes, err
		}
		return r.truth(e.Kids[1])
	}
	v, err := r.values(e.Kids)
	if err != api.OK {
		return false, err
	}
	order := v[0].Cmp(v[1])
	return order < 0 || order == 0 && e.Op == api.ELeq, api.OK
}
