package scope

import (
	"reflect"
	"slices"
	"strings"
	"testing"

	"isocline/api"
	"isocline/model"
)

// arguments are those of all functions, in one form.
type arguments struct {
	l            []api.Class
	a, b         string
	outer, inner []api.Mod
}

// call is a function; what it returns is in a list, the error last.
type call struct {
	name string
	of   func(a arguments) []any
}

func calls() []call {
	list := func(l ...any) []any { return l }
	return []call{
		{"Lookup", func(a arguments) []any { return list(Lookup(a.l, a.a, a.b)) }},
		{"Bases", func(a arguments) []any { return list(Bases(a.l, a.a)) }},
		{"Whole", func(a arguments) []any { return list(Whole(a.l, a.a)) }},
		{"Member", func(a arguments) []any { return list(Member(a.l, a.a, a.b)) }},
		{"Fits", func(a arguments) []any { return list(Fits(a.l, a.a, a.b)) }},
		{"Loop", func(a arguments) []any { return list(Loop(a.l)) }},
		{"Merge", func(a arguments) []any { return list(Merge(a.outer, a.inner)) }},
	}
}

// isNothing reports whether x is the zero value, or an empty slice.
func isNothing(x any) bool {
	v := reflect.ValueOf(x)
	return v.Kind() == reflect.Slice && v.Len() == 0 || v.IsZero()
}

// hold reports whether results may be: the library's errors come first, with an error there is nothing but it, else all is in memory of its own.
func hold(c call, a arguments, l []any) bool {
	err := l[len(l)-1].(api.Errno)
	if wrong := model.ValidateAll(a.l); c.name != "Merge" && wrong != api.OK && err != wrong {
		return false
	}
	for _, x := range l[:len(l)-1] {
		if err != api.OK && !isNothing(x) || !apart(x) || share(x, a.l) || share(x, a.outer) || share(x, a.inner) {
			return false
		}
	}
	return true
}

// libraries are good and bad ones.
func libraries() [][]api.Class {
	l := [][]api.Class{nil, lib(example), lib(nested), lib(chain(60)), lib(ladder())}
	m := newMaker(4)
	for range 100 {
		l = append(l, m.library())
	}
	for _, bad := range []api.Class{
		{}, {Name: "model"}, {Name: "a", Kind: 3}, {Name: "pin"}, {Name: strings.Repeat("a.", 100000) + "a"},
		{Name: "a", Comps: make([]api.Comp, 1000)}, {Name: "a", Comps: []api.Comp{{Name: "x", Type: "Real", Var: -1}}},
		{Name: "a", Bases: []api.Base{{Name: "b", Mods: []api.Mod{{Path: "x"}}}}}, {Name: "a", Comps: []api.Comp{{Name: "x", Type: "t"}, {Name: "x", Type: "t"}}},
		{Name: "a", Eqs: make([]api.Eq, 1)}, {Name: "a", Eqs: []api.Eq{{L: ex("1 < 2"), R: ex("1")}}},
	} {
		l = append(l, append(lib(nested), bad), []api.Class{bad})
	}
	return append(l, slices.Concat(lib(chain(60)), lib("model x; .")))
}

// TestAllArguments calls every function with all samples: none panics, errors of arguments come first, the same call returns the same, and no argument is changed.
func TestAllArguments(t *testing.T) {
	names := []string{"a", "b", "top", "c0", "a.b", "b.c", "x", "u", "", "Real", "a.r", "u.x", "model", "pin", "\x00\xff", strings.Repeat("x.", 5000) + "x", strings.Repeat("a", 1000)}
	lists := [][]api.Mod{nil, mods("x = 1, y = z + 2"), mods("y is t, w.x = 3"), paths(0, 9), paths(0, 1000), paths(3, 8), make([]api.Mod, 3), {{Path: strings.Repeat("a.", 5000) + "a"}}, {{Path: "x", Type: "\x00", Value: api.Expr{Op: -1, Kids: make([]api.Expr, 3)}}}}
	twins := libraries()
	for i, l := range libraries() {
		for j := range 8 {
			a := arguments{l, names[(i+j*3)%len(names)], names[(i*7+j)%len(names)], lists[(i+j)%len(lists)], lists[(i*2+j*5)%len(lists)]}
			if len(l) > 0 && j%2 == 0 {
				a.a = l[(i+j)%len(l)].Name
			}
			outer, inner := plain(reflect.ValueOf(a.outer)), plain(reflect.ValueOf(a.inner))
			for _, f := range calls() {
				got := f.of(a)
				if again := f.of(a); !hold(f, a, got) || !reflect.DeepEqual(got, again) {
					t.Fatalf("%s of sample %d, %d: %v, then %v", f.name, i, j, got, again)
				}
			}
			if !reflect.DeepEqual(outer, plain(reflect.ValueOf(a.outer))) || !reflect.DeepEqual(inner, plain(reflect.ValueOf(a.inner))) {
				t.Fatalf("sample %d, %d: changed modifiers", i, j)
			}
		}
		if !same(l, twins[i]) {
			t.Fatalf("sample %d: changed library", i)
		}
	}
}

// TestMemory looks for memory that results share with the library or within themselves, also where classes of the library share theirs.
func TestMemory(t *testing.T) {
	l := lib("model a; t u(x = y + z); Real v = q * 2; equation v = 1 + v; when v < 1; set v = v + 2; end when; connect u v; .\nmodel t; Real x; .\nmodel c; extends a(u.x = 3 + z, v = 4 + z); .\nmodel d; extends a; .")
	shared := ex("1 + z + v")
	l[0].Comps[0].Mods[0].Value, l[0].Comps[1].Value, l[0].Eqs[0].L, l[0].Eqs[0].R = shared, shared, shared, shared
	l[2].Bases[0].Mods[0].Value = shared
	for _, name := range []string{"a", "c", "d"} {
		c, err := Whole(l, name)
		if err != api.OK || !apart(c) || share(c, l) {
			t.Errorf("Whole of %s: %d", name, err)
		}
		for _, path := range []string{"u", "v", "u.x"} {
			k, err := Member(l, name, path)
			if err != api.OK || !apart(k) || share(k, l) {
				t.Errorf("Member of %s, %s: %d", name, path, err)
			}
		}
	}
}
