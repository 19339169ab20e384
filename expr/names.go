package expr

import (
	"slices"

	"isocline/api"
)

// Names returns the texts of an environment that e asks for, ascending.
func Names(e api.Expr) ([]string, api.Errno) {
	if err := Validate(e); err != api.OK {
		return nil, err
	}
	return names(e), api.OK
}

// names returns Names of a valid expression.
func names(e api.Expr) []string {
	var l []string
	every(e, func(k api.Expr) bool {
		if isNamed(k.Op) {
			l = append(l, asked(k))
		}
		return true
	})
	slices.Sort(l)
	return slices.Compact(l)
}

// Subst returns e with by in the place of each EName of a name: ErrType if by is a condition, ErrLarge for the result.
func Subst(e api.Expr, name string, by api.Expr) (api.Expr, api.Errno) {
	if err := bothErrors(e, by); err != api.OK {
		return api.Expr{}, err
	}
	if isCondition(by) {
		return api.Expr{}, api.ErrType
	}
	f := become(e, func(k api.Expr) api.Expr {
		if k.Op == api.EName && k.Name == name {
			return by
		}
		return k
	})
	if !small(f) {
		return api.Expr{}, api.ErrLarge
	}
	return copied(f), api.OK
}

// Rename returns e with a prefix and `.` ahead of every name: ErrArg if the prefix is no name, ErrLarge if a name gets too long.
func Rename(e api.Expr, prefix string) (api.Expr, api.Errno) {
	if err := Validate(e); err != api.OK {
		return api.Expr{}, err
	}
	if !isName(prefix) {
		return api.Expr{}, api.ErrArg
	}
	f := become(e, func(k api.Expr) api.Expr {
		if isNamed(k.Op) {
			k.Name = prefix + "." + k.Name
		}
		return k
	})
	short := func(k api.Expr) bool { return len(k.Name) <= api.MaxName }
	if !every(f, short) {
		return api.Expr{}, api.ErrLarge
	}
	return f, api.OK
}

// become returns e with what each of its nodes becomes, kids ahead of their node. Nodes of the result are new, but what they become may be shared.
func become(e api.Expr, to func(api.Expr) api.Expr) api.Expr {
	e.Kids = slices.Clone(e.Kids)
	for i, k := range e.Kids {
		e.Kids[i] = become(k, to)
	}
	return to(e)
}

// copied returns e in memory of its own, each node apart from the others.
func copied(e api.Expr) api.Expr {
	return become(e, func(k api.Expr) api.Expr { return k })
}

// table returns the items of an environment by their names: ErrLarge for their number, valid's errors one by one, ErrTwice.
func table[T any](env []T, name func(T) string, valid func(T) api.Errno) (map[string]T, api.Errno) {
	if len(env) > api.MaxRow {
		return nil, api.ErrLarge
	}
	for _, x := range env {
		if err := valid(x); err != api.OK {
			return nil, err
		}
	}
	t := map[string]T{}
	for _, x := range env {
		if _, twice := t[name(x)]; twice {
			return nil, api.ErrTwice
		}
		t[name(x)] = x
	}
	return t, api.OK
}
