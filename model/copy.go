package model

import (
	"slices"

	"isocline/api"
)

// copies returns the copies of all items.
func copies[T any](l []T, copied func(T) T) []T {
	l = slices.Clone(l)
	for i, x := range l {
		l[i] = copied(x)
	}
	return l
}

// copyClass returns a valid class in memory of its own, as the following ones do for its parts.
func copyClass(c api.Class) api.Class {
	c.Bases = copies(c.Bases, copyBase)
	c.Comps = copies(c.Comps, copyComp)
	c.Eqs = copies(c.Eqs, copyEq)
	c.Links = slices.Clone(c.Links)
	c.Whens = copies(c.Whens, copyWhen)
	return c
}

func copyBase(b api.Base) api.Base {
	b.Mods = copies(b.Mods, copyMod)
	return b
}

func copyComp(k api.Comp) api.Comp {
	k.Cond = copyExpr(k.Cond)
	k.Value = copyExpr(k.Value)
	k.Mods = copies(k.Mods, copyMod)
	return k
}

func copyMod(m api.Mod) api.Mod {
	m.Value = copyExpr(m.Value)
	return m
}

func copyEq(q api.Eq) api.Eq {
	q.L = copyExpr(q.L)
	q.R = copyExpr(q.R)
	return q
}

func copyWhen(w api.When) api.When {
	w.C = copyExpr(w.C)
	w.Sets = copies(w.Sets, copySet)
	return w
}

func copySet(s api.Set) api.Set {
	s.E = copyExpr(s.E)
	return s
}

func copyExpr(e api.Expr) api.Expr {
	e.Kids = copies(e.Kids, copyExpr)
	return e
}
