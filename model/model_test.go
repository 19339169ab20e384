package model

import (
	"fmt"
	"slices"
	"strings"
	"testing"

	"isocline/api"
)

// named are empty classes of some names.
func named(names ...string) []api.Class {
	var l []api.Class
	for _, s := range names {
		l = append(l, api.Class{Name: s})
	}
	return l
}

// many are n classes.
func many(n int) []api.Class {
	return times(n, func(i int) api.Class { return api.Class{Name: fmt.Sprint("c", i)} })
}

func TestFind(t *testing.T) {
	l := named("a", "a.b", "b", "A")
	for name, want := range map[string]int{"a": 0, "a.b": 1, "b": 2, "A": 3} {
		if at, err := Find(l, name); at != want || err != api.OK {
			t.Errorf("Find %q: %d %v", name, at, err)
		}
	}
	for _, name := range []string{"", "c", "a.", "a ", "b.a", "model", "\x00", strings.Repeat("a", 1000)} {
		if at, err := Find(l, name); at != 0 || err != api.ErrNone {
			t.Errorf("Find %q: %d %v", name, at, err)
		}
	}
	if at, err := Find(nil, "a"); at != 0 || err != api.ErrNone {
		t.Errorf("Find in nothing: %d %v", at, err)
	}
	if at, err := Find(many(60), "c59"); at != 59 || err != api.OK {
		t.Errorf("Find the last one: %d %v", at, err)
	}
}

func TestPut(t *testing.T) {
	other := pin()
	other.Kind = api.KPartial
	for i, x := range []struct {
		l    []api.Class
		c    api.Class
		want []api.Class
		err  api.Errno
	}{
		{nil, full(), []api.Class{full()}, api.OK},
		{[]api.Class{pin()}, resistor(), []api.Class{pin(), resistor()}, api.OK},
		{[]api.Class{resistor(), pin(), full()}, other, []api.Class{resistor(), other, full()}, api.OK},
		{[]api.Class{pin()}, pin(), []api.Class{pin()}, api.OK},
		{many(59), pin(), append(many(59), pin()), api.OK},
		{many(60), pin(), nil, api.ErrLarge},
		{many(60), api.Class{Name: "c59", Kind: 1}, append(many(59), api.Class{Name: "c59", Kind: 1}), api.OK},
		{many(60), api.Class{Name: "c0", Kind: 2}, append([]api.Class{{Name: "c0", Kind: 2}}, many(60)[1:]...), api.OK},
		{many(60), api.Class{}, nil, api.ErrArg},
		{many(61), api.Class{}, nil, api.ErrLarge},
		{named("a", "a"), api.Class{}, nil, api.ErrTwice},
		{nil, api.Class{Name: "a", Kind: -1}, nil, api.ErrArg},
		{nil, api.Class{Name: "a", Whens: []api.When{{C: ex("1")}}}, nil, api.ErrType},
	} {
		if l, err := Put(x.l, x.c); !same(l, x.want) || err != x.err {
			t.Errorf("%d: %v %v", i, l, err)
		}
	}
}

func TestDrop(t *testing.T) {
	for i, x := range []struct {
		l    []api.Class
		name string
		want []api.Class
		err  api.Errno
	}{
		{[]api.Class{pin()}, "pin", nil, api.OK},
		{[]api.Class{pin(), full(), resistor()}, "pin", []api.Class{full(), resistor()}, api.OK},
		{[]api.Class{pin(), full(), resistor()}, "a.b_2", []api.Class{pin(), resistor()}, api.OK},
		{[]api.Class{pin(), full(), resistor()}, "res", []api.Class{pin(), full()}, api.OK},
		{[]api.Class{pin(), full(), resistor()}, "a", nil, api.ErrNone},
		{[]api.Class{pin()}, "", nil, api.ErrNone},
		{nil, "pin", nil, api.ErrNone},
		{many(60), "c0", many(60)[1:], api.OK},
		{named("a", "a"), "a", nil, api.ErrTwice},
	} {
		if l, err := Drop(x.l, x.name); !same(l, x.want) || err != x.err {
			t.Errorf("%d: %v %v", i, l, err)
		}
	}
}

// parse is the list of classes of a text that has to be one.
func parse(t *testing.T, s string) []api.Class {
	t.Helper()
	l, at, err := Parse(s)
	if err != api.OK {
		t.Fatalf("Parse of %q: %v at %d", s, err, at)
	}
	return l
}

// TestRename has the old name wherever it may stand, and where it means something else.
func TestRename(t *testing.T) {
	const before = `model a
extends b(a is c, x = a)
extends a.b
Real a = 1 when a < 2
a x
c a1(a is a, b is a.b, c.a = a)
replaceable a.a y(d is a)
equation a = a.x
connect a a.x
when a < 1
set a = 1
end when
end a

partial c
extends a
extends a(a is a)
aa z
end c

port a.a
end a.a
`
	after := `model new.name
extends b(a is c, x = a)
extends a.b
Real a = 1 when a < 2
new.name x
c a1(a is new.name, b is a.b, c.a = a)
replaceable a.a y(d is new.name)
equation a = a.x
connect a a.x
when a < 1
set a = 1
end when
end new.name

partial c
extends new.name
extends new.name(a is new.name)
aa z
end c

port a.a
end a.a
`
	most, over := long()
	for _, to := range []string{"new.name", "x", "A", most, "b", "aa"} {
		l, err := Rename(parse(t, before), "a", to)
		if s, _ := Print(l); s != strings.ReplaceAll(after, "new.name", to) || err != api.OK {
			t.Errorf("Rename to %s: %v\n%s", to, err, s)
		}
	}
	for _, x := range []struct {
		from, to string
		err      api.Errno
	}{
		{"a", "c", api.ErrTwice}, {"a", "a.a", api.ErrTwice}, {"c", "a", api.ErrTwice}, {"a.a", "c", api.ErrTwice},
		{"b", "x", api.ErrNone}, {"b", "a", api.ErrNone}, {"b", "b", api.ErrNone}, {"", "x", api.ErrNone}, {"Real", "x", api.ErrNone}, {"model", "a", api.ErrNone}, {"x.", "x", api.ErrNone},
		{"a", "", api.ErrArg}, {"a", "Real", api.ErrArg}, {"a", "model", api.ErrArg}, {"a", "a.", api.ErrArg}, {"a", over, api.ErrArg}, {"a", "a b", api.ErrArg}, {"a", "x[1]", api.ErrArg}, {"b", "1", api.ErrArg}, {"", "", api.ErrArg}, {"Real", "Real", api.ErrArg},
	} {
		if l, err := Rename(parse(t, before), x.from, x.to); len(l) > 0 || err != x.err {
			t.Errorf("Rename of %q to %q: %v %v, not %v", x.from, x.to, l, err, x.err)
		}
	}
	for _, name := range []string{"a", "c", "a.a"} {
		l, err := Rename(parse(t, before), name, name)
		if s, _ := Print(l); s != before || err != api.OK {
			t.Errorf("Rename of %s to itself: %v\n%s", name, err, s)
		}
	}
	if l, err := Rename(named("a", "a"), "a", ""); len(l) > 0 || err != api.ErrTwice {
		t.Errorf("Rename in classes of one name: %v %v", l, err)
	}
}

// TestRenameBack renames to and fro in random libraries.
func TestRenameBack(t *testing.T) {
	m := newMaker(3)
	for range 500 {
		l := m.library()
		for i, c := range l {
			there, err := Rename(l, c.Name, "fresh")
			if err != api.OK || there[i].Name != "fresh" || slices.ContainsFunc(there, func(d api.Class) bool {
				uses, _ := Uses(d)
				return slices.Contains(uses, c.Name)
			}) {
				t.Fatalf("Rename of %s in %v: %v %v", c.Name, l, there, err)
			}
			back, err := Rename(there, "fresh", c.Name)
			if err != api.OK || !same(back, l) {
				t.Fatalf("Rename of %s in %v and back: %v %v", c.Name, l, back, err)
			}
		}
	}
}

func TestUses(t *testing.T) {
	for lines, want := range map[string][]string{
		"Real x = a":                    nil,
		"equation a = b":                nil,
		"extends t":                     {"t"},
		"extends t(a is u, b = c)":      {"t", "u"},
		"t x":                           {"t"},
		"t x(a is u, b = c, d is u)":    {"t", "u"},
		"t x\nt y\nReal t":              {"t"},
		"t x\nextends1 m":               {"extends1", "t"},
		"extends z\nb x(c is a)\na.b y": {"a", "a.b", "b", "z"},
		"m x":                           {"m"},
		"extends b\nextends b(y is B)\nb x(q is aa, r is a.a, s is b)": {"B", "a.a", "aa", "b"},
	} {
		c := parse(t, inClass(lines))[0]
		if l, err := Uses(c); !slices.Equal(l, want) || err != api.OK {
			t.Errorf("Uses of %q: %v %v", lines, l, err)
		}
	}
	if l, err := Uses(full()); !slices.Equal(l, []string{"lib.t", "lib.two", "sub.t", "t", "two"}) || err != api.OK {
		t.Errorf("Uses of full: %v %v", l, err)
	}
	if l, err := Uses(api.Class{Name: "a", Bases: []api.Base{{Name: "Real"}}}); len(l) > 0 || err != api.ErrArg {
		t.Errorf("Uses of a class that is not valid: %v %v", l, err)
	}
}
