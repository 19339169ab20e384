package scope

import (
	"slices"

	"isocline/api"
	"isocline/model"
)

// Merge puts the modifiers of an outer list over those of an inner one: ErrLarge for an argument, ErrArg for a Path, ErrTwice for a list, ErrLarge for the result.
func Merge(outer, inner []api.Mod) ([]api.Mod, api.Errno) {
	if err := pathError(outer, inner); err != api.OK {
		return nil, err
	}
	r := merge(outer, inner)
	if len(r) > api.MaxMods {
		return nil, api.ErrLarge
	}
	for i := range r {
		r[i].Value = copyExpr(r[i].Value)
	}
	return r, api.OK
}

// pathError returns the first error of the lengths and the Paths of lists of modifiers. It asks the model for it, with lists that have no other error.
func pathError(lists ...[]api.Mod) api.Errno {
	c := api.Class{Name: "a"}
	for _, mods := range lists {
		b := api.Base{Name: "a"}
		for _, m := range mods {
			b.Mods = append(b.Mods, api.Mod{Path: m.Path, Type: "a"})
		}
		c.Bases = append(c.Bases, b)
	}
	return model.Validate(c)
}

// merge puts outer modifiers over inner ones, however many there are. The expressions are shared with the arguments.
func merge(outer, inner []api.Mod) []api.Mod {
	r := make([]api.Mod, len(inner), len(inner)+len(outer))
	copy(r, inner)
	for _, m := range outer {
		at := slices.IndexFunc(inner, func(x api.Mod) bool { return x.Path == m.Path })
		if at < 0 {
			r = append(r, m)
		} else {
			r[at] = m
		}
	}
	return r
}

func copyExpr(e api.Expr) api.Expr {
	kids := make([]api.Expr, len(e.Kids))
	for i, k := range e.Kids {
		kids[i] = copyExpr(k)
	}
	e.Kids = kids
	return e
}
