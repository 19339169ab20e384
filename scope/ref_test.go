package scope

import (
	"slices"
	"strings"
	"testing"

	"isocline/api"
	"isocline/model"
)

// The functions of this file say again what P9.1 to P9.7 say, slowly and in another way: they follow each way of names through the texts anew.

func find(l []api.Class, name string) int {
	return slices.IndexFunc(l, func(c api.Class) bool { return c.Name == name })
}

// slowLookup cuts the name of the class from its end.
func slowLookup(l []api.Class, from, name string) int {
	around := strings.Split(from, ".")
	for n := len(around); n >= 0; n-- {
		if at := find(l, strings.Join(append(slices.Clone(around[:n]), name), ".")); at >= 0 {
			return at
		}
	}
	return -1
}

// slowBases lists the bases of each base with all that was met ahead.
func slowBases(l []api.Class, name string, in, met []string) ([]string, api.Errno) {
	if slices.Contains(in, name) {
		return nil, api.ErrLoop
	}
	if slices.Contains(met, name) {
		return met, api.OK
	}
	in = append(slices.Clone(in), name)
	for _, b := range l[find(l, name)].Bases {
		at := slowLookup(l, name, b.Name)
		if at < 0 {
			return nil, api.ErrNone
		}
		var err api.Errno
		if met, err = slowBases(l, l[at].Name, in, met); err != api.OK {
			return nil, err
		}
	}
	return append(met, name), api.OK
}

// slowWay returns the modifiers of all extends along the way by which a walk from a class meets another one first, the outer ones first, and whether there is a way.
func slowWay(l []api.Class, from, to string) ([][]api.Mod, bool) {
	if from == to {
		return nil, true
	}
	for _, b := range l[find(l, from)].Bases {
		base := l[slowLookup(l, from, b.Name)].Name
		if way, is := slowWay(l, base, to); is {
			return append([][]api.Mod{slowTypes(l, from, b.Mods)}, way...), true
		}
	}
	return nil, false
}

// slowTypes gives the Types of modifiers that stand in a class their full names.
func slowTypes(l []api.Class, from string, mods []api.Mod) []api.Mod {
	mods = slices.Clone(mods)
	for i, m := range mods {
		if at := slowLookup(l, from, m.Type); at >= 0 {
			mods[i].Type = l[at].Name
		}
	}
	return mods
}

// apply changes one component by one modifier.
func apply(k *api.Comp, m api.Mod) {
	names := strings.Split(m.Path, ".")
	if names[0] != k.Name {
		return
	}
	if len(names) == 1 {
		if m.Type != "" {
			k.Type = m.Type
		} else if k.Type == "Real" {
			k.Value = m.Value
		}
		return
	}
	m.Path = strings.Join(names[1:], ".")
	for i := range k.Mods {
		if k.Mods[i].Path == m.Path {
			k.Mods[i] = m
			return
		}
	}
	k.Mods = append(k.Mods, m)
}

// slowDeclared are the components of a class and its bases as they are declared.
func slowDeclared(l []api.Class, name string) []api.Comp {
	names, _ := slowBases(l, name, nil, nil)
	var r []api.Comp
	for _, s := range names {
		for _, k := range l[find(l, s)].Comps {
			if at := slowLookup(l, s, k.Type); at >= 0 {
				k.Type = l[at].Name
			}
			k.Mods = slowTypes(l, s, k.Mods)
			r = append(r, k)
		}
	}
	return r
}

// slowMade is the whole class, whatever errors there are; each modifier is put over what the inner ones left, one by one.
func slowMade(l []api.Class, name string, over []api.Mod) api.Class {
	c := l[find(l, name)]
	r := api.Class{Name: name, Kind: c.Kind}
	names, _ := slowBases(l, name, nil, nil)
	for _, s := range names {
		way, _ := slowWay(l, name, s)
		base := l[find(l, s)]
		for _, k := range slowDeclared(l, s)[len(slowDeclared(l, s))-len(base.Comps):] {
			for _, mods := range slices.Backward(append([][]api.Mod{over}, way...)) {
				for _, m := range mods {
					apply(&k, m)
				}
			}
			r.Comps = append(r.Comps, k)
		}
		r.Eqs = append(r.Eqs, base.Eqs...)
		r.Links = append(r.Links, base.Links...)
		r.Whens = append(r.Whens, base.Whens...)
	}
	return r
}

// looked is a modifier and what it stands at: the component that its first name names, if there is one.
type looked struct {
	m    api.Mod
	k    api.Comp
	is   bool
	deep bool
}

func look(l []api.Class, name string, mods []api.Mod) []looked {
	var r []looked
	for _, m := range mods {
		x := looked{m: m, deep: strings.Contains(m.Path, ".")}
		for _, k := range slowDeclared(l, name) {
			if k.Name == strings.Split(m.Path, ".")[0] {
				x.k, x.is = k, true
			}
		}
		r = append(r, x)
	}
	return r
}

// slowLooked are all modifiers that are looked at for a class.
func slowLooked(l []api.Class, name string, over []api.Mod) []looked {
	r := look(l, name, over)
	names, _ := slowBases(l, name, nil, nil)
	for _, s := range names {
		for _, b := range l[find(l, s)].Bases {
			r = append(r, look(l, l[slowLookup(l, s, b.Name)].Name, slowTypes(l, s, b.Mods))...)
		}
	}
	return r
}

// slowNames is the first error of bases and names.
func slowNames(l []api.Class, name string, over []api.Mod) api.Errno {
	names, err := slowBases(l, name, nil, nil)
	if err != api.OK {
		return err
	}
	met := map[string]bool{}
	for _, k := range slowDeclared(l, name) {
		if met[k.Name] {
			return api.ErrTwice
		}
		met[k.Name] = true
	}
	for _, s := range names {
		c := l[find(l, s)]
		var types []string
		for _, b := range c.Bases {
			for _, m := range b.Mods {
				types = append(types, m.Type)
			}
		}
		for _, k := range c.Comps {
			types = append(types, k.Type)
			for _, m := range k.Mods {
				types = append(types, m.Type)
			}
		}
		for _, x := range types {
			if x != "" && x != "Real" && slowLookup(l, s, x) < 0 {
				return api.ErrNone
			}
		}
	}
	for _, x := range slowLooked(l, name, over) {
		if !x.is {
			return api.ErrNone
		}
	}
	return api.OK
}

// slowWhole is the whole class with modifiers over it.
func slowWhole(l []api.Class, name string, over []api.Mod) (api.Class, api.Errno) {
	if err := slowNames(l, name, over); err != api.OK {
		return api.Class{}, err
	}
	for _, x := range slowLooked(l, name, over) {
		number := x.k.Type == "Real"
		if !x.deep && x.m.Type == "" && !number || !x.deep && x.m.Type != "" && number || x.deep && number {
			return api.Class{}, api.ErrType
		}
	}
	for _, x := range slowLooked(l, name, over) {
		if x.deep || x.m.Type == "" {
			continue
		}
		fit, err := slowFits(l, x.m.Type, x.k.Type, nil)
		if !x.k.Replace || !fit || err != api.OK {
			return api.Class{}, api.ErrRule
		}
	}
	c := slowMade(l, name, over)
	if err := model.Validate(c); err != api.OK {
		return api.Class{}, err
	}
	return c, api.OK
}

// slowFits asks again and again, but for the pairs that are being asked.
func slowFits(l []api.Class, a, b string, asked [][2]string) (bool, api.Errno) {
	if slices.Contains(asked, [2]string{a, b}) {
		return true, api.OK
	}
	asked = append(slices.Clone(asked), [2]string{a, b})
	for _, s := range []string{a, b} {
		if err := slowNames(l, s, nil); err != api.OK {
			return false, err
		}
	}
	mine := slowMade(l, a, nil).Comps
	for _, k := range slowMade(l, b, nil).Comps {
		at := slices.IndexFunc(mine, func(x api.Comp) bool { return x.Name == k.Name })
		if at < 0 {
			return false, api.OK
		}
		x := mine[at]
		if x.Var != k.Var || x.Flow != k.Flow || x.Size != k.Size || (x.Type == "Real") != (k.Type == "Real") {
			return false, api.OK
		}
		if k.Type != "Real" {
			if fit, err := slowFits(l, x.Type, k.Type, asked); !fit || err != api.OK {
				return false, err
			}
		}
	}
	return true, api.OK
}

// slowMember goes in by a call for each name.
func slowMember(l []api.Class, name string, over []api.Mod, path []string) (api.Comp, api.Errno) {
	c, err := slowWhole(l, name, over)
	if err != api.OK {
		return api.Comp{}, err
	}
	for _, k := range c.Comps {
		if k.Name != path[0] {
			continue
		}
		if len(path) == 1 {
			return k, api.OK
		}
		if k.Type != "Real" {
			return slowMember(l, k.Type, k.Mods, path[1:])
		}
	}
	return api.Comp{}, api.ErrNone
}

// slowLoop tries all ways of a length, shorter ones first.
func slowLoop(l []api.Class) ([]string, bool, api.Errno) {
	next := make([][]int, len(l))
	for i, c := range l {
		w, err := slowWhole(l, c.Name, nil)
		if err != api.OK {
			return nil, false, err
		}
		for j := range l {
			if slices.ContainsFunc(w.Comps, func(k api.Comp) bool { return k.Type == l[j].Name }) {
				next[i] = append(next[i], j)
			}
		}
	}
	var back func(way []int, n int) []int
	back = func(way []int, n int) []int {
		for _, j := range next[way[len(way)-1]] {
			if n == 1 && j == way[0] {
				return way
			}
			if n > 1 {
				if r := back(append(slices.Clone(way), j), n-1); r != nil {
					return r
				}
			}
		}
		return nil
	}
	for i := range l {
		for n := 1; n <= len(l); n++ {
			if way := back([]int{i}, n); way != nil {
				return times(len(way), func(k int) string { return l[way[k]].Name }), true, api.OK
			}
		}
	}
	return nil, false, api.OK
}

// TestRandom holds all functions against the slow ones for random libraries.
func TestRandom(t *testing.T) {
	m := newMaker(9)
	met := map[string]map[any]int{}
	count := func(f string, x any) {
		if met[f] == nil {
			met[f] = map[any]int{}
		}
		met[f][x]++
	}
	for range 2000 {
		l := m.library()
		all := func() string {
			s, _ := model.Print(l)
			return s
		}
		for i, c := range l {
			from := c.Name
			name := m.one("a", "b", "c", "d", "b.c", "a.b", "e", "", "Real")
			at, err := Lookup(l, from, name)
			if want := slowLookup(l, from, name); at != max(want, 0) || (want < 0) != (err == api.ErrNone) {
				t.Fatalf("Lookup %s %s: %d %d, not %d in\n%s", from, name, at, err, want, all())
			}
			count("Lookup", err)
			list, err := Bases(l, from)
			if want, e := slowBases(l, from, nil, nil); !slices.Equal(list, want) || err != e {
				t.Fatalf("Bases of %s: %v %d, not %v %d in\n%s", from, list, err, want, e, all())
			}
			count("Bases", err)
			w, err := Whole(l, from)
			if want, e := slowWhole(l, from, nil); !same(w, want) || err != e {
				t.Fatalf("Whole of %s: %v %d, not %v %d in\n%s", from, w, err, want, e, all())
			}
			count("Whole", err)
			b := l[m.r.Intn(len(l))].Name
			fit, err := Fits(l, from, b)
			if want, e := slowFits(l, from, b, nil); fit != want || err != e {
				t.Fatalf("Fits of %s, %s: %v %d, not %v %d in\n%s", from, b, fit, err, want, e, all())
			}
			if b != from {
				count("Fits", [2]any{fit, err})
			}
			path := m.one("x", "u.x", "u", "u.u", "u.u.x", "v.u", "w", "v.u.u.y", "u.u.u.u.u.u", "x.x")
			k, err := Member(l, from, path)
			if want, e := slowMember(l, from, nil, strings.Split(path, ".")); !same(k, want) || err != e {
				t.Fatalf("Member of %s, %s: %v %d, not %v %d in\n%s", from, path, k, err, want, e, all())
			}
			count("Member", err)
			if i > 0 {
				continue
			}
			cycle, is, err := Loop(l)
			if want, e, f := slowLoop(l); !slices.Equal(cycle, want) || is != e || err != f {
				t.Fatalf("Loop: %v %v %d, not %v %v %d in\n%s", cycle, is, err, want, e, f, all())
			}
			count("Loop", [2]any{len(cycle), err})
		}
	}
	for f, results := range map[string][]any{
		"Lookup": {api.OK, api.ErrNone},
		"Bases":  {api.OK, api.ErrNone, api.ErrLoop},
		"Whole":  {api.OK, api.ErrNone, api.ErrTwice, api.ErrType, api.ErrRule, api.ErrLoop},
		"Member": {api.OK, api.ErrNone, api.ErrTwice, api.ErrType, api.ErrRule, api.ErrLoop},
		"Fits":   {[2]any{true, api.OK}, [2]any{false, api.OK}, [2]any{false, api.ErrNone}, [2]any{false, api.ErrTwice}, [2]any{false, api.ErrLoop}},
		"Loop":   {[2]any{0, api.OK}, [2]any{1, api.OK}, [2]any{2, api.OK}, [2]any{0, api.ErrRule}},
	} {
		for _, x := range results {
			if met[f][x] == 0 {
				t.Errorf("%s never returned %v", f, x)
			}
		}
	}
}
