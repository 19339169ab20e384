package flat

import (
	"slices"
	"strings"

	"isocline/api"
	"isocline/expr"
	"isocline/model"
	"isocline/rat"
	"isocline/unit"
)

// timeName is the name of the time, which is no variable.
const timeName = "time"

// Validate returns the first error of a flat model: ErrLarge for its lists, ErrArg for fields, ErrTwice for names, those of its expressions, ErrType for their sort, ErrNone for what names no variable.
func Validate(f api.Flat) api.Errno {
	vars := byName(f.Vars)
	switch {
	case !small(f):
		return api.ErrLarge
	case !formed(f):
		return api.ErrArg
	case len(vars) < len(f.Vars):
		return api.ErrTwice
	}
	l := sides(f)
	for _, s := range l {
		if err := expr.Validate(s.e); err != api.OK {
			return err
		}
	}
	for _, s := range l {
		if isCondition(s.e) != s.condition {
			return api.ErrType
		}
	}
	if !vars.meant(f) {
		return api.ErrNone
	}
	return api.OK
}

// small reports whether no list of a flat model is too long.
func small(f api.Flat) bool {
	return len(f.Vars) <= api.MaxVars && len(f.Eqs) <= api.MaxFlatEqs && len(f.Links) <= api.MaxFlatEqs && len(f.Whens) <= api.MaxFlatEqs
}

// formed reports whether all fields are as described, but for the expressions and the names in them.
func formed(f api.Flat) bool {
	wrongVar := func(v api.Var) bool { return !formedVar(v) }
	wrongLink := func(k api.Link) bool {
		return k.In != "" && !(strings.HasPrefix(k.A, k.In+".") && strings.HasPrefix(k.B, k.In+"."))
	}
	return !slices.ContainsFunc(f.Vars, wrongVar) && !slices.ContainsFunc(f.Links, wrongLink)
}

func formedVar(v api.Var) bool {
	if !isPath(v.Name) || rat.Validate(v.Value) != api.OK {
		return false
	}
	if _, err := unit.Parse(v.Unit); err != api.OK && v.Unit != "" {
		return false
	}
	switch v.Var {
	case api.VFree, api.VDisc:
		return true
	case api.VParam:
		return v.Fixed
	}
	return false
}

// isPath reports whether s may be the end of a link, which the model is asked for.
func isPath(s string) bool {
	return model.Validate(api.Class{Name: "a", Links: []api.Link{{A: s, B: s}}}) == api.OK
}

// side is an expression of a flat model, with whether it has to be a condition.
type side struct {
	e         api.Expr
	condition bool
}

// sides returns the expressions of a flat model in order.
func sides(f api.Flat) []side {
	var l []side
	for _, q := range f.Eqs {
		l = append(l, side{q.L, false}, side{q.R, false})
	}
	for _, w := range f.Whens {
		l = append(l, side{w.C, true})
		for _, s := range w.Sets {
			l = append(l, side{s.E, false})
		}
	}
	return l
}

func isCondition(e api.Expr) bool {
	switch e.Op {
	case api.ELess, api.ELeq, api.ENot, api.EAnd, api.EOr:
		return true
	}
	return false
}

// table has variables by their names.
type table map[string]api.Var

func byName(vars []api.Var) table {
	t := table{}
	for _, v := range vars {
		t[v.Name] = v
	}
	return t
}

// meant reports whether all expressions, ends of links and sets name variables.
func (t table) meant(f api.Flat) bool {
	for _, s := range sides(f) {
		if !t.read(s.e) {
			return false
		}
	}
	for _, k := range f.Links {
		if !t.joined(k.A) || !t.joined(k.B) {
			return false
		}
	}
	for _, w := range f.Whens {
		for _, s := range w.Sets {
			if _, is := t[s.Name]; !is {
				return false
			}
		}
	}
	return true
}

// read reports whether all names in an expression are those of variables, or the time.
func (t table) read(e api.Expr) bool {
	switch e.Op {
	case api.EName, api.EDer, api.EPre:
		v, is := t[e.Name]
		return e.Name == timeName || is && (e.Op != api.EDer || v.Var == api.VFree)
	}
	return !slices.ContainsFunc(e.Kids, func(k api.Expr) bool { return !t.read(k) })
}

// joined reports whether the end of a link is a variable, or what has one in it.
func (t table) joined(end string) bool {
	if _, is := t[end]; is {
		return true
	}
	for name := range t {
		if strings.HasPrefix(name, end+".") {
			return true
		}
	}
	return false
}
