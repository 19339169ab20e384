package flat

import (
	"fmt"
	"math"
	"reflect"
	"slices"
	"strings"
	"testing"

	"isocline/api"
	"isocline/model"
	"isocline/scope"
)

// arguments are those of all functions, in one form.
type arguments struct {
	l    []api.Class
	name string
	f    api.Flat
	env  []api.Bind
}

// call is a function; what it returns is in a list, the error last.
type call struct {
	name string
	of   func(a arguments) []any
}

func calls() []call {
	list := func(l ...any) []any { return l }
	return []call{
		{"Validate", func(a arguments) []any { return list(Validate(a.f)) }},
		{"Flatten", func(a arguments) []any { return list(Flatten(a.l, a.name)) }},
		{"Trouble", func(a arguments) []any { return list(Trouble(a.l, a.name)) }},
		{"Params", func(a arguments) []any { return list(Params(a.f)) }},
		{"Put", func(a arguments) []any { return list(Put(a.f, a.env)) }},
		{"Holds", func(a arguments) []any { return list(Holds(a.f, a.env)) }},
		{"Plain", func(a arguments) []any { return list(Plain(a.l, a.name, a.env)) }},
		{"Units", func(a arguments) []any { return list(Units(a.f)) }},
	}
}

// isNothing reports whether x is the zero value, or an empty slice.
func isNothing(x any) bool {
	v := reflect.ValueOf(x)
	return v.Kind() == reflect.Slice && v.Len() == 0 || v.IsZero()
}

// hold reports whether results may be: the errors of the first argument come first, with an error there is nothing but it, else all is in memory of its own.
func hold(c call, a arguments, l []any) bool {
	err := l[len(l)-1].(api.Errno)
	first := Validate(a.f)
	switch c.name {
	case "Flatten", "Trouble", "Plain":
		first = model.ValidateAll(a.l)
	}
	if first != api.OK && err != first {
		return false
	}
	for _, x := range l[:len(l)-1] {
		if err != api.OK && !isNothing(x) && c.name != "Trouble" || !apart(x) || share(x, a.l) || share(x, a.f) || share(x, a.env) {
			return false
		}
	}
	return true
}

// libraries are good and bad ones.
func libraries() [][]api.Class {
	m := newMaker(3)
	l := [][]api.Class{nil, lib(electric), lib(electric + "model a; inner pin g; res r[2]; b u; connect r[1] g; .\nmodel b; outer pin g; res q; connect q.p g; .")}
	for range 150 {
		l = append(l, m.library())
	}
	for _, bad := range []api.Class{
		{}, {Name: "model"}, {Name: "a", Kind: 3}, {Name: "pin"}, {Name: strings.Repeat("a.", 100000) + "a"}, {Name: "a", Comps: make([]api.Comp, 1000)},
		{Name: "a", Comps: []api.Comp{{Name: "x", Type: "Real", Var: -1}}}, {Name: "a", Eqs: make([]api.Eq, 1)}, {Name: "a", Eqs: []api.Eq{{L: ex("1 < 2"), R: ex("1")}}},
	} {
		l = append(l, []api.Class{bad}, append(lib(electric), bad))
	}
	return l
}

// flats are good and bad ones.
func flats() []api.Flat {
	l := []api.Flat{{}, flatOf(good), {Vars: make([]api.Var, 3)}, {Vars: make([]api.Var, 65)}, {Eqs: make([]api.Eq, 97)}, {Links: make([]api.Link, 3)}, {Whens: make([]api.When, 3)}, {Whens: []api.When{{C: ex("0 < 1"), Sets: make([]api.Set, 3)}}}}
	m := newMaker(8)
	names := []string{"x", "y", "u.x", "u.v[1].k", "k", "time"}
	for range 200 {
		s := "x in V; flow y in A; parameter k = 2 in Ohm; u.x in " + m.one("V", "kg/s2") + "; parameter u.v[1].k = -1/2; " + m.one("", "z;", "x;")
		for range m.r.Intn(3) {
			s += m.one("initial ", "equation ") + m.one(names...) + " = " + m.expression(names, 3) + ";"
			s += "when " + m.one(names...) + " < 2 set x = " + m.expression(names, 1) + ";"
		}
		f := flatOf(s + m.one("", "connect x y;", "connect x u", "connect u.x u.v[1] @ u"))
		if m.chance(8) {
			f.Vars[m.r.Intn(len(f.Vars))].Value = api.Rat{N: m.r.Intn(5) - 2, D: m.r.Intn(5) - 2}
		}
		if m.chance(20) {
			f.Vars[m.r.Intn(len(f.Vars))].Unit = m.one("foo", strings.Repeat("m.", 1000))
		}
		l = append(l, f)
	}
	return l
}

func environments() [][]api.Bind {
	return [][]api.Bind{
		nil, env("x 1, y 2, u.x 1/2, time 3"), env("x 0, y 0, u.x 0, der(x) 2"), env("k 1"), env("k 3, u.v[1].k 4"), env("x 1, x 1"), make([]api.Bind, 65), make([]api.Bind, 3),
		{{Name: "x", V: api.Rat{N: math.MinInt, D: math.MinInt}}}, {{Name: "\x00\xff", V: num("1")}}, {{Name: "der(x", V: num("1")}, {Name: "pre()", V: num("1")}}, {{Name: strings.Repeat("x", 100000), V: num("1")}},
	}
}

// TestAllArguments calls every function with all samples: none panics, errors of arguments come first, the same call returns the same, and no argument is changed.
func TestAllArguments(t *testing.T) {
	names := []string{"a", "b", "res", "c", "d", "pin", "", "a.b", "Real", "\x00\xff", strings.Repeat("x.", 5000) + "x"}
	libs, models, envs := libraries(), flats(), environments()
	twins, twinModels, twinEnvs := libraries(), flats(), environments()
	for i := range 600 {
		a := arguments{libs[i%len(libs)], names[i*i%len(names)], models[i%len(models)], envs[i%len(envs)]}
		if i%3 > 0 {
			a.name = "a"
		}
		for _, f := range calls() {
			got := f.of(a)
			if again := f.of(a); !hold(f, a, got) || !reflect.DeepEqual(got, again) {
				t.Fatalf("%s of sample %d: %v, then %v", f.name, i, got, again)
			}
		}
	}
	if !same(libs, twins) || !same(models, twinModels) || !same(envs, twinEnvs) {
		t.Error("changed arguments")
	}
}

// TestMemory looks for memory that results share with arguments or within themselves, also where the arguments share theirs.
func TestMemory(t *testing.T) {
	l := lib(electric + "model a; res r[3](r = 1 + 2); Real x; equation x = 1 + x; equation x = 2; when x < 1; set x = x + 2; end when; connect r[1] r[2]; .")
	shared := ex("x + x * x")
	a := &l[2]
	a.Eqs[0].L, a.Eqs[0].R, a.Eqs[1].L, a.Whens[0].Sets[0].E = shared, shared, shared, shared
	f, err := Flatten(l, "a")
	if err != api.OK || !apart(f) || share(f, l) {
		t.Errorf("Flatten: %d", err)
	}
	f.Eqs[0].L, f.Eqs[1].L, f.Whens[0].Sets[0].E = shared, shared, shared
	f.Eqs[0].L = ex("x")
	g, err := Put(f, env("r[1].r 5"))
	if err != api.OK || !apart(g) || share(g, f) || f.Vars[4].Value != num("3") {
		t.Errorf("Put: %d", err)
	}
}

// lines are those of a flat model in the order of texts.
func lines(f api.Flat) []string {
	l := strings.Split(show(f), "; ")
	slices.Sort(l)
	return l
}

// TestWriting holds promise S1: other names of classes, another order of components and classes, whole classes instead of bases change nothing.
func TestWriting(t *testing.T) {
	m := newMaker(21)
	good := 0
	for i := range 400 {
		l := m.library()
		f, err := Flatten(l, "a")
		if err != api.OK {
			continue
		}
		good++
		from := m.one("b", "c", "d", "e", "f", "g")
		renamed, _ := model.Rename(l, from, "other.name")
		turned := slices.Clone(l)
		slices.Reverse(turned)
		whole := slices.Clone(l)
		for j, c := range turned {
			turned[j].Comps = slices.Clone(c.Comps)
			slices.Reverse(turned[j].Comps)
		}
		for j, c := range whole {
			if w, err := scope.Whole(l, c.Name); err == api.OK {
				whole[j] = w
			}
		}
		for name, other := range map[string][]api.Class{"renamed": renamed, "turned": turned, "whole": whole} {
			g, err := Flatten(other, "a")
			if err != api.OK || !slices.Equal(lines(f), lines(g)) || name != "turned" && !same(f, g) {
				t.Fatalf("library %d, %s: %d\n%s, not\n%s", i, name, err, show(g), show(f))
			}
		}
	}
	if good < 100 {
		t.Errorf("only %d", good)
	}
}

// TestPlainRandom holds Plain against Holds of Flatten, in random values of most names.
func TestPlainRandom(t *testing.T) {
	m := newMaker(22)
	met := map[string]int{}
	for i := range 600 {
		l := m.library()
		f, err := Flatten(l, "a")
		if err != api.OK {
			continue
		}
		var e []api.Bind
		for _, v := range f.Vars {
			if len(e) == 58 {
				break
			}
			x := api.Rat{N: m.r.Intn(3), D: 1}
			if v.Var != api.VParam && !m.chance(40) {
				e = append(e, api.Bind{Name: v.Name, V: x})
			}
			if m.chance(4) && len(e) < 55 {
				e = append(e, api.Bind{Name: m.one("der(", "pre(") + v.Name + ")", V: x})
			}
		}
		e = append(e, env("time 2")...)
		holds, at, err := Holds(f, e)
		plain, perr := Plain(l, "a", e)
		if plain != holds || perr != err {
			t.Fatalf("library %d: Plain %v %d, Holds %v at %d %d", i, plain, perr, holds, at, err)
		}
		met[fmt.Sprint(holds, err)]++
	}
	if met["true 0"] < 10 || met["false 0"] < 10 || met["false 4"] < 10 {
		t.Errorf("too few: %v", met)
	}
}
