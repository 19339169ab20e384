package model

import (
	"math/rand"
	"reflect"
	"slices"
	"strconv"
	"testing"

	"isocline/api"
	"isocline/expr"
)

func q(n, d int) api.Rat { return api.Rat{N: n, D: d} }

// ex is the expression of a text that has to be one.
func ex(s string) api.Expr {
	e, at, err := expr.Parse(s)
	if err != api.OK {
		panic(s + ": " + strconv.Itoa(int(err)) + " at " + strconv.Itoa(at))
	}
	return e
}

func name(s string) api.Expr { return api.Expr{Op: api.EName, Name: s} }

// value and typed are modifiers.
func value(path, e string) api.Mod { return api.Mod{Path: path, Value: ex(e)} }

func typed(path, s string) api.Mod { return api.Mod{Path: path, Type: s} }

// pin and resistor are the classes of the chapter's example.
func pin() api.Class {
	return api.Class{Name: "pin", Kind: api.KPort, Comps: []api.Comp{
		{Name: "v", Type: "Real", Unit: "V"},
		{Name: "i", Type: "Real", Unit: "A", Flow: true},
	}}
}

func resistor() api.Class {
	return api.Class{
		Name: "res",
		Comps: []api.Comp{
			{Name: "p", Type: "pin"},
			{Name: "n", Type: "pin"},
			{Name: "r", Type: "Real", Var: api.VParam, Value: ex("10"), Unit: "Ohm"},
		},
		Eqs: []api.Eq{
			{L: ex("p.v - n.v"), R: ex("r * p.i")},
			{L: ex("p.i + n.i"), R: ex("0")},
		},
	}
}

// full is a class with everything that a class may have.
func full() api.Class {
	return api.Class{
		Name: "a.b_2",
		Kind: api.KPartial,
		Bases: []api.Base{
			{Name: "two"},
			{Name: "lib.two", Mods: []api.Mod{value("x", "if a < b then 1 else 2"), typed("m.n", "lib.t")}},
		},
		Comps: []api.Comp{
			{Name: "x", Type: "Real"},
			{Name: "y", Type: "Real", Var: api.VDisc, Flow: true, Size: 8, Scope: api.OInner, Cond: ex("n < 3"), Value: ex("min(1, 2) + time"), Unit: "2 kg.m2/s2"},
			{Name: "z", Type: "sub.t", Size: 1, Scope: api.OOuter, Replace: true, Cond: ex("n <= 3 or n < 2"), Mods: []api.Mod{value("r", "max(a, b)"), value("r.q", "-1/2"), typed("s", "t")}},
			{Name: "n", Type: "Real", Var: api.VParam, Value: ex("2")},
		},
		Eqs:   []api.Eq{{L: ex("der(x)"), R: ex("-x")}, {Init: true, L: ex("x"), R: ex("1")}},
		Links: []api.Link{{A: "z[1].p", B: "p"}, {A: "a", B: "b.c[8]"}},
		Whens: []api.When{
			{C: ex("x < 1"), Sets: []api.Set{{Name: "y[2]", E: ex("pre(y[2]) + 1")}, {Name: "z.k", E: ex("0")}}},
			{C: ex("not x <= 1")},
		},
	}
}

// fullText is the text of full.
const fullText = `partial a.b_2
extends two
extends lib.two(x = if a < b then 1 else 2, m.n is lib.t)
Real x
inner flow discrete Real y[8] = min(1, 2) + time in 2 kg.m2/s2 when n < 3
outer replaceable sub.t z[1](r = max(a, b), r.q = -1/2, s is t) when n <= 3 or n < 2
parameter Real n = 2
equation der(x) = -(x)
initial x = 1
connect z[1].p p
connect a b.c[8]
when x < 1
set y[2] = pre(y[2]) + 1
set z.k = 0
end when
when not x <= 1
end when
end a.b_2
`

// maker makes random valid classes.
type maker struct {
	r *rand.Rand
}

func newMaker(seed int64) maker { return maker{rand.New(rand.NewSource(seed))} }

func (m maker) one(l ...string) string { return l[m.r.Intn(len(l))] }

func (m maker) chance(n int) bool { return m.r.Intn(n) == 0 }

func (m maker) class() string {
	return m.one("a", "b", "c.d", "pin", "a.b.c", "x_1", "sixteen_bytes_16", "Model")
}

func (m maker) numeric() api.Expr {
	return ex(m.one("1", "-2/3", "x", "a.b[2].c", "der(x) * 2", "if x < y and (not y < z) then (x) else 2", "min(x, max(y, abs(z)))", "x^-2 / (y - 1)", "-(-x)", "(if a <= b then 1 else 2) + 3", "pre(x) - (y - time)", "ends + inn", "x12345678901234567890"))
}

func (m maker) condition() api.Expr {
	return ex(m.one("x < y", "x <= 2 or y < 1 and not z < 0", "(x < y or y < z) and z < x", "min(x, y) < (if x < y then 1 else 2)"))
}

func (m maker) mods() []api.Mod {
	var l []api.Mod
	for _, path := range []string{"x", "y.z", "abc", "x.x.x_"} {
		switch m.r.Intn(4) {
		case 0:
			l = append(l, api.Mod{Path: path, Type: m.class()})
		case 1:
			l = append(l, api.Mod{Path: path, Value: m.numeric()})
		}
	}
	return l
}

func (m maker) comp(name string) api.Comp {
	k := api.Comp{Name: name, Type: "Real", Size: max(0, m.r.Intn(16)-7), Scope: m.r.Intn(3)}
	if m.chance(3) {
		k.Cond = m.condition()
	}
	if m.chance(2) {
		k.Type, k.Replace, k.Mods = m.class(), m.chance(2), m.mods()
		return k
	}
	k.Var, k.Flow, k.Unit = m.r.Intn(3), m.chance(2), m.one("", "V", "2/3 kg.m/s-2", "1", "1/s")
	if m.chance(2) {
		k.Value = m.numeric()
	}
	return k
}

func (m maker) end() string {
	return m.one("x", "x.y", "a[1].b[8]", "p.v", "z[3]")
}

// made is a random valid class of a name.
func (m maker) made(name string) api.Class {
	c := api.Class{Name: name, Kind: m.r.Intn(3)}
	for range m.r.Intn(3) {
		c.Bases = append(c.Bases, api.Base{Name: m.class(), Mods: m.mods()})
	}
	for i := range m.r.Intn(5) {
		c.Comps = append(c.Comps, m.comp("x"+strconv.Itoa(i)))
	}
	for range m.r.Intn(4) {
		c.Eqs = append(c.Eqs, api.Eq{Init: m.chance(3), L: m.numeric(), R: m.numeric()})
	}
	for range m.r.Intn(3) {
		c.Links = append(c.Links, api.Link{A: m.end(), B: m.end()})
	}
	for range m.r.Intn(3) {
		w := api.When{C: m.condition()}
		for range m.r.Intn(3) {
			w.Sets = append(w.Sets, api.Set{Name: m.end(), E: m.numeric()})
		}
		c.Whens = append(c.Whens, w)
	}
	return c
}

// library is a random valid list of classes.
func (m maker) library() []api.Class {
	var l []api.Class
	for _, name := range []string{"a", "b", "c.d", "pin", "a.b.c"} {
		if m.chance(2) {
			l = append(l, m.made(name))
		}
	}
	m.r.Shuffle(len(l), func(i, j int) { l[i], l[j] = l[j], l[i] })
	return l
}

// memory has the addresses of all items of slices within a value, the same one as often as it is met.
func memory(x any) []uintptr {
	var l []uintptr
	var walk func(v reflect.Value)
	walk = func(v reflect.Value) {
		switch v.Kind() {
		case reflect.Struct:
			for i := range v.NumField() {
				walk(v.Field(i))
			}
		case reflect.Slice:
			for i := range v.Len() {
				l = append(l, v.Index(i).Addr().Pointer())
				walk(v.Index(i))
			}
		}
	}
	walk(reflect.ValueOf(x))
	slices.Sort(l)
	return l
}

// apart reports whether no two slices within a value share memory.
func apart(x any) bool {
	l := memory(x)
	return len(slices.Compact(slices.Clone(l))) == len(l)
}

// share reports whether a slice within x and one within y share memory.
func share(x, y any) bool {
	in := memory(y)
	return slices.ContainsFunc(memory(x), func(p uintptr) bool {
		_, found := slices.BinarySearch(in, p)
		return found
	})
}

// same reports whether two values are equal; no items are nil or empty.
func same(a, b any) bool {
	return reflect.DeepEqual(plain(reflect.ValueOf(a)), plain(reflect.ValueOf(b)))
}

// plain is a value as lists of its parts.
func plain(v reflect.Value) any {
	l := []any{}
	switch v.Kind() {
	case reflect.Struct:
		for i := range v.NumField() {
			l = append(l, plain(v.Field(i)))
		}
	case reflect.Slice:
		for i := range v.Len() {
			l = append(l, plain(v.Index(i)))
		}
	default:
		return v.Interface()
	}
	return l
}

// TestHelp holds the helpers against what they have to tell.
func TestHelp(t *testing.T) {
	c := full()
	d := full()
	if !apart(c) || !apart([]api.Class{c, d}) || apart([]api.Class{c, c}) {
		t.Error("apart")
	}
	if share(c, d) || !share(c, c) || !share(c, c.Comps[2].Mods[1:]) {
		t.Error("share")
	}
	if !same(c, d) || !same([]string{}, []string(nil)) || same([]string{"a"}, []string{"b"}) {
		t.Error("same")
	}
	d.Comps[2].Mods[1].Value.N.N++
	if same(c, d) {
		t.Error("same of others")
	}
}
