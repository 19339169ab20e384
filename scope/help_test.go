package scope

import (
	"fmt"
	"math/rand"
	"reflect"
	"slices"
	"strings"
	"testing"

	"isocline/api"
	"isocline/expr"
	"isocline/model"
)

// lib is the library of a text, whose lines may be parted by semicolons, and whose classes end with `.`.
func lib(text string) []api.Class {
	var lines []string
	name := ""
	for line := range strings.SplitSeq(strings.ReplaceAll(text, ";", "\n"), "\n") {
		words := strings.Fields(line)
		if len(words) == 2 && name == "" {
			name = words[1]
		}
		if len(words) == 1 && words[0] == "." {
			line, name = "end "+name, ""
		}
		lines = append(lines, line)
	}
	l, at, err := model.Parse(strings.Join(lines, "\n"))
	if err != api.OK {
		panic(fmt.Sprint("error ", err, " in line ", at, " of\n", text))
	}
	return l
}

// text is the text of a class on one line.
func text(c api.Class) string {
	s, err := model.Print([]api.Class{c})
	if err != api.OK {
		panic(err)
	}
	return strings.ReplaceAll(strings.TrimSuffix(s, "\n"), "\n", "; ")
}

// part is the text of a component.
func part(k api.Comp) string {
	s := text(api.Class{Name: "a", Comps: []api.Comp{k}})
	return strings.TrimSuffix(strings.TrimPrefix(s, "model a; "), "; end a")
}

// mods are the modifiers of a text.
func mods(s string) []api.Mod {
	if s == "" {
		return nil
	}
	return lib("model a; t x(" + s + "); .")[0].Comps[0].Mods
}

// ex is the expression of a text.
func ex(s string) api.Expr {
	e, _, err := expr.Parse(s)
	if err != api.OK {
		panic(s)
	}
	return e
}

// times are n items.
func times[T any](n int, item func(i int) T) []T {
	var l []T
	for i := range n {
		l = append(l, item(i))
	}
	return l
}

// maker makes random libraries.
type maker struct {
	r *rand.Rand
}

func newMaker(seed int64) maker { return maker{rand.New(rand.NewSource(seed))} }

func (m maker) one(l ...string) string { return l[m.r.Intn(len(l))] }

func (m maker) chance(n int) bool { return m.r.Intn(n) == 0 }

// names are those of the classes of random libraries, a class of which mostly extends those behind it alone.
func names() []string { return []string{"a.b.c", "a.b", "b.c", "d", "a", "b", "c"} }

// class is a name that may mean a class; it is one of those from the number at on, as far as their full names tell.
func (m maker) class(at int) string {
	l := names()
	if m.chance(40) {
		return m.one("b", "c", "e", "a.b.c", "b.c")
	}
	if at = min(at, len(l)-1); m.chance(60) {
		at = 0
	}
	return l[at+m.r.Intn(len(l)-at)]
}

// modifiers are random ones, mostly such as most classes take.
func (m maker) modifiers(at, most int) string {
	var l []string
	for _, i := range m.r.Perm(6)[:m.r.Intn(most+1)] {
		switch n := fmt.Sprint(m.r.Intn(9)); i {
		case 0, 1, 2:
			l = append(l, []string{"x", "y", "z"}[i]+" = "+n)
		case 3:
			l = append(l, "u is "+m.class(at))
		case 4:
			l = append(l, m.one("u", "u", "u", "v", "x")+"."+m.one("x", "y", "u.x", "w")+" = "+n)
		case 5:
			l = append(l, "u.u is "+m.class(at))
		}
	}
	slices.Sort(l)
	if l = slices.Compact(l); len(l) == 0 {
		return ""
	}
	return "(" + strings.Join(l, ", ") + ")"
}

// made is a random class; only some have components of their own, as two of one name are wrong.
func (m maker) made(at int) string {
	l := []string{m.one("model", "port", "partial") + " " + names()[at]}
	own := m.chance(3) || at > 3
	for range m.r.Intn(3) {
		if !own || m.chance(4) {
			l = append(l, "extends "+m.class(at+1)+m.modifiers(at, 2))
		}
	}
	if own {
		l = append(l, "Real x", "Real y = 5")
		if m.chance(2) {
			l = append(l, m.one("", "parameter ", "flow ")+"Real z"+m.one("", "", "[2]"))
		}
		if !m.chance(3) {
			l = append(l, m.one("replaceable ", "replaceable ", "")+m.class(at)+" u"+m.modifiers(at, 1))
		}
	}
	if m.chance(6) {
		l = append(l, m.class(at)+" v"+m.one("", "[2]")+m.modifiers(at, 2))
	}
	for range m.r.Intn(2) {
		l = append(l, "equation x = "+fmt.Sprint(m.r.Intn(9)), "connect u v", "when x < 1", "set x = 2", "end when")
	}
	return strings.Join(append(l, "."), "\n")
}

// library is a random valid library.
func (m maker) library() []api.Class {
	var l []string
	for at := range names() {
		if !m.chance(20) {
			l = append(l, m.made(at))
		}
	}
	m.r.Shuffle(len(l), func(i, j int) { l[i], l[j] = l[j], l[i] })
	return lib(strings.Join(l, "\n"))
}

// memory has the addresses of all items of slices within a value, the same one as often as it is met.
func memory(x any) []uintptr {
	var l []uintptr
	var walk func(v reflect.Value)
	walk = func(v reflect.Value) {
		switch v.Kind() {
		case reflect.Struct:
			for i := range v.NumField() {
				walk(v.Field(i))
			}
		case reflect.Slice:
			for i := range v.Len() {
				l = append(l, v.Index(i).Addr().Pointer())
				walk(v.Index(i))
			}
		}
	}
	walk(reflect.ValueOf(x))
	slices.Sort(l)
	return l
}

// apart reports whether no two slices within a value share memory.
func apart(x any) bool {
	l := memory(x)
	return len(slices.Compact(slices.Clone(l))) == len(l)
}

// share reports whether a slice within x and one within y share memory.
func share(x, y any) bool {
	in := memory(y)
	return slices.ContainsFunc(memory(x), func(p uintptr) bool {
		_, found := slices.BinarySearch(in, p)
		return found
	})
}

// same reports whether two values are equal; no items are nil or empty.
func same(a, b any) bool {
	return reflect.DeepEqual(plain(reflect.ValueOf(a)), plain(reflect.ValueOf(b)))
}

// plain is a value as lists of its parts.
func plain(v reflect.Value) any {
	l := []any{}
	switch v.Kind() {
	case reflect.Struct:
		for i := range v.NumField() {
			l = append(l, plain(v.Field(i)))
		}
	case reflect.Slice:
		for i := range v.Len() {
			l = append(l, plain(v.Index(i)))
		}
	default:
		return v.Interface()
	}
	return l
}

// TestHelp holds the helpers against what they have to tell.
func TestHelp(t *testing.T) {
	c := lib("model a; t x(y = 1 + z, u is v); equation x = 2; .")
	d := lib("model a; t x(y = 1 + z, u is v); equation x = 2; .")
	if !apart(c) || !apart(c[0].Comps[0]) || apart([]api.Class{c[0], c[0]}) {
		t.Error("apart")
	}
	if share(c, d) || !share(c, c) || !share(c, c[0].Comps[0].Mods[1:]) {
		t.Error("share")
	}
	if !same(c, d) || !same([]string{}, []string(nil)) || same([]string{"a"}, []string{"b"}) {
		t.Error("same")
	}
	if d[0].Comps[0].Mods[0].Value.Kids[0].N.N++; same(c, d) {
		t.Error("same of others")
	}
	if s := text(c[0]); s != "model a; t x(y = 1 + z, u is v); equation x = 2; end a" {
		t.Error(s)
	}
	if s := part(c[0].Comps[0]); s != "t x(y = 1 + z, u is v)" {
		t.Error(s)
	}
}
