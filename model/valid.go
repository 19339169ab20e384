package model

import (
	"slices"
	"strings"

	"isocline/api"
	"isocline/expr"
	"isocline/unit"
)

// Validate returns the first error of a class: ErrLarge for its lists, ErrArg for names and fields, ErrTwice for names, then those of its expressions.
func Validate(c api.Class) api.Errno {
	switch {
	case !small(c):
		return api.ErrLarge
	case !formed(c):
		return api.ErrArg
	case hasTwins(c):
		return api.ErrTwice
	}
	return expressionError(parts(c))
}

// ValidateAll returns the first error of a library: ErrLarge for its number of classes, those of each class, ErrTwice for their names.
func ValidateAll(l []api.Class) api.Errno {
	if len(l) > api.MaxClasses {
		return api.ErrLarge
	}
	for _, c := range l {
		if err := Validate(c); err != api.OK {
			return err
		}
	}
	if twice(l, func(c api.Class) string { return c.Name }) {
		return api.ErrTwice
	}
	return api.OK
}

// all reports whether all items are as asked.
func all[T any](l []T, is func(T) bool) bool {
	return !slices.ContainsFunc(l, func(x T) bool { return !is(x) })
}

// twice reports whether two items have one name.
func twice[T any](l []T, name func(T) string) bool {
	met := map[string]bool{}
	for _, x := range l {
		if met[name(x)] {
			return true
		}
		met[name(x)] = true
	}
	return false
}

// modLists returns the lists of modifiers of a class, those of its bases first.
func modLists(c api.Class) [][]api.Mod {
	var l [][]api.Mod
	for _, b := range c.Bases {
		l = append(l, b.Mods)
	}
	for _, k := range c.Comps {
		l = append(l, k.Mods)
	}
	return l
}

// small reports whether no list of a class is too long.
func small(c api.Class) bool {
	if len(c.Bases) > api.MaxBases || len(c.Comps) > api.MaxComps {
		return false
	}
	if len(c.Eqs) > api.MaxEqs || len(c.Links) > api.MaxEqs || len(c.Whens) > api.MaxEqs {
		return false
	}
	fewMods := func(l []api.Mod) bool { return len(l) <= api.MaxMods }
	fewSets := func(w api.When) bool { return len(w.Sets) <= api.MaxSets }
	return all(modLists(c), fewMods) && all(c.Whens, fewSets)
}

// formed reports whether all names and fields of a class are as described; its expressions are only asked whether they are zero.
func formed(c api.Class) bool {
	base := func(b api.Base) bool { return isClassName(b.Name) }
	mods := func(l []api.Mod) bool { return all(l, formedMod) }
	link := func(k api.Link) bool { return isEnd(k.A) && isEnd(k.B) && k.In == "" }
	set := func(s api.Set) bool { return isEnd(s.Name) }
	when := func(w api.When) bool { return all(w.Sets, set) }
	return isClassName(c.Name) && isIndex(c.Kind, len(kindWords())) && all(c.Bases, base) && all(c.Comps, formedComp) &&
		all(modLists(c), mods) && all(c.Links, link) && all(c.Whens, when)
}

// isIndex reports whether i is one of n.
func isIndex(i, n int) bool {
	return 0 <= i && i < n
}

func formedMod(m api.Mod) bool {
	if m.Type == "" {
		return isPath(m.Path) && !isZero(m.Value)
	}
	return isPath(m.Path) && isClassName(m.Type) && isZero(m.Value)
}

// formedComp reports whether a component is as described, but for its modifiers.
func formedComp(k api.Comp) bool {
	if !isSimple(k.Name) || !isIndex(k.Size, api.MaxSize+1) || !isIndex(k.Var, len(varWords())) || !isIndex(k.Scope, len(scopeWords())) {
		return false
	}
	if k.Type == realType {
		return !k.Replace && len(k.Mods) == 0 && (k.Unit == "" || isUnit(k.Unit))
	}
	return isClassName(k.Type) && !k.Flow && k.Unit == "" && k.Var == api.VFree && isZero(k.Value)
}

func isUnit(s string) bool {
	_, err := unit.Parse(s)
	return err == api.OK
}

// isZero reports whether e is the zero expression.
func isZero(e api.Expr) bool {
	return e.Op == 0 && e.Name == "" && e.N == api.Rat{} && len(e.Kids) == 0
}

// hasTwins reports whether two components have one name, or a path stands twice in a list of modifiers.
func hasTwins(c api.Class) bool {
	path := func(m api.Mod) string { return m.Path }
	again := func(l []api.Mod) bool { return twice(l, path) }
	return twice(c.Comps, func(k api.Comp) string { return k.Name }) || slices.ContainsFunc(modLists(c), again)
}

// part is an expression of a class, with whether it has to be a condition.
type part struct {
	e         api.Expr
	condition bool
}

// parts returns the expressions of a class that is formed, in the order in which Print writes them.
func parts(c api.Class) []part {
	var l []part
	numeric := func(e api.Expr) { l = append(l, part{e, false}) }
	condition := func(e api.Expr) { l = append(l, part{e, true}) }
	values := func(mods []api.Mod) {
		for _, m := range mods {
			if m.Type == "" {
				numeric(m.Value)
			}
		}
	}
	for _, b := range c.Bases {
		values(b.Mods)
	}
	for _, k := range c.Comps {
		values(k.Mods)
		if !isZero(k.Value) {
			numeric(k.Value)
		}
		if !isZero(k.Cond) {
			condition(k.Cond)
		}
	}
	for _, q := range c.Eqs {
		numeric(q.L)
		numeric(q.R)
	}
	for _, w := range c.Whens {
		condition(w.C)
		for _, s := range w.Sets {
			numeric(s.E)
		}
	}
	return l
}

// expressionError returns the first error of expressions: Validate's one by one, ErrArg for names that begin with a word, ErrType.
func expressionError(l []part) api.Errno {
	for _, p := range l {
		if err := expr.Validate(p.e); err != api.OK {
			return err
		}
	}
	free := func(p part) bool { return !namesWord(p.e) }
	if !all(l, free) {
		return api.ErrArg
	}
	sorted := func(p part) bool { return isCondition(p.e) == p.condition }
	if !all(l, sorted) {
		return api.ErrType
	}
	return api.OK
}

// namesWord reports whether a valid expression has a name that begins with a word, other than `time`.
func namesWord(e api.Expr) bool {
	first := e.Name
	if end := strings.IndexAny(first, ".["); end >= 0 {
		first = first[:end]
	}
	return isWord(first) && first != "time" || slices.ContainsFunc(e.Kids, namesWord)
}

// isCondition reports whether a valid expression is a condition.
func isCondition(e api.Expr) bool {
	switch e.Op {
	case api.ELess, api.ELeq, api.ENot, api.EAnd, api.EOr:
		return true
	}
	return false
}
