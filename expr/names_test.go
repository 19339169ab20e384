package expr

import (
	"slices"
	"strings"
	"testing"

	"isocline/api"
)

func TestNames(t *testing.T) {
	for s, want := range map[string]string{
		"2":                           "",
		"x":                           "x",
		"x+x":                         "x",
		"z+y*x":                       "x y z",
		"x+der(x)+pre(x)+der(x)":      "der(x) pre(x) x",
		"pre(b)+der(c)+de+a10+a2+A+a": "A a a10 a2 de der(c) pre(b)",
		"if a<b then c else d":        "a b c d",
		"x[2]+x.y+x_y":                "x.y x[2] x_y",
	} {
		l, err := Names(parse(t, s))
		if got := strings.Join(l, " "); got != want || err != api.OK {
			t.Errorf("Names of %q: %q %v", s, got, err)
		}
	}
	l, err := Names(parse(t, "not a<der(b) or pre(c)<=1"))
	if !slices.Equal(l, []string{"a", "der(b)", "pre(c)"}) || err != api.OK {
		t.Errorf("Names of a condition: %v %v", l, err)
	}
	for _, e := range []api.Expr{{}, {Op: api.EName}, chainOf(13)} {
		if l, err := Names(e); l != nil || err != Validate(e) {
			t.Errorf("Names of %v: %v %v", e, l, err)
		}
	}
}

func TestSubst(t *testing.T) {
	for _, c := range [][4]string{
		{"x+y*x", "x", "a-1", "a - 1 + y * (a - 1)"},
		{"x+y*x", "y", "2", "x + 2 * x"},
		{"x+y*x", "z", "2", "x + y * x"},
		{"x+y*x", "", "2", "x + y * x"},
		{"x", "x", "x+x", "x + x"},
		{"x+der(x)+pre(x)", "x", "2", "2 + der(x) + pre(x)"},
		{"x+der(x)+pre(x)", "der(x)", "2", "x + der(x) + pre(x)"},
		{"x.a+x+x[1]", "x", "y", "x.a + y + x[1]"},
		{"x<y and not x<=1", "x", "-y", "-(y) < y and not -(y) <= 1"},
		{"if x<y then x else z", "x", "if a<b then 1 else 2", "if (if a < b then 1 else 2) < y then (if a < b then 1 else 2) else z"},
	} {
		e, by := parse(t, c[0]), parse(t, c[2])
		f, err := Subst(e, c[1], by)
		s, _ := Print(f)
		if s != c[3] || err != api.OK || !apart(f, e, by) {
			t.Errorf("Subst of %s by %s in %s: %s %v", c[1], c[2], c[0], s, err)
		}
	}
	x, less, one := name("x"), parse(t, "a<b"), fixed(q(1, 1))
	for _, c := range []struct {
		e    api.Expr
		name string
		by   api.Expr
		want api.Errno
	}{
		{x, "x", less, api.ErrType},
		{x, "y", less, api.ErrType},
		{less, "c", less, api.ErrType},
		{chainOf(12), "x", chainOf(1), api.OK},
		{chainOf(12), "x", chainOf(2), api.ErrLarge},
		{chainOf(12), "y", chainOf(2), api.OK},
		{chainOf(6), "x", chainOf(7), api.OK},
		{chainOf(6), "x", chainOf(8), api.ErrLarge},
		{node(api.ENeg, bushOf(79)), "x", name("y"), api.OK},
		{node(api.EAdd, bushOf(39), bushOf(39)), "x", bushOf(3), api.ErrLarge},
		{node(api.EAdd, x, x), "x", bushOf(39), api.OK},
		{node(api.EAdd, x, bushOf(3)), "x", bushOf(79), api.ErrLarge},
		{api.Expr{}, "x", one, api.ErrArg},
		{x, "x", api.Expr{}, api.ErrArg},
		{x, "y", api.Expr{}, api.ErrArg},
		{chainOf(13), "x", api.Expr{}, api.ErrLarge},
		{api.Expr{}, "x", chainOf(13), api.ErrArg},
		{x, "x", node(api.ENot, x), api.ErrType},
	} {
		f, err := Subst(c.e, c.name, c.by)
		if err != c.want || (err == api.OK) != (Validate(f) == api.OK) || err != api.OK && !same(f, api.Expr{}) {
			t.Errorf("Subst of %s in %v by %v: %v %v, not %v", c.name, c.e, c.by, f, err, c.want)
		}
	}
}

// TestSubstValue puts in expressions and asks for values: the value with the expression put in is that with its value.
func TestSubstValue(t *testing.T) {
	m := newMaker(7, []int{api.EConst, api.EName, api.EName, api.ENeg, api.EAdd, api.ESub, api.EMul, api.EMin, api.EAbs, api.EIf})
	m.names = []string{"x", "y"}
	for range 3000 {
		e, by := m.numeric(4), m.numeric(3)
		f, err := Subst(e, "x", by)
		if err != api.OK {
			continue
		}
		env := []api.Bind{{Name: "x", V: m.numbers(m.r)}, {Name: "y", V: m.numbers(m.r)}}
		got, err := Value(f, env)
		env[0].V, _ = Value(by, env)
		want, errToo := Value(e, env)
		if got != want || err != errToo {
			t.Fatalf("Value of %v: %v %v, not %v %v", f, got, err, want, errToo)
		}
	}
}

func TestRename(t *testing.T) {
	for _, c := range [][3]string{
		{"x+y*x", "a", "a.x + a.y * a.x"},
		{"x.z+der(y)+pre(y[2])", "a.b[3]", "a.b[3].x.z + der(a.b[3].y) + pre(a.b[3].y[2])"},
		{"2", "a", "2"},
		{"x<y or not der(x)<1", "a", "a.x < a.y or not der(a.x) < 1"},
		{"if x<y then x else 2", "if.", "if if..x < if..y then if..x else 2"},
	} {
		e := parse(t, c[0])
		f, err := Rename(e, c[1])
		s, _ := Print(f)
		if s != c[2] || err != api.OK || !apart(f, e) {
			t.Errorf("Rename of %s with %s: %s %v", c[0], c[1], s, err)
		}
	}
	long := strings.Repeat("n", 58)
	two := fixed(q(2, 1))
	for _, c := range []struct {
		e      api.Expr
		prefix string
		want   api.Errno
	}{
		{name("x"), "", api.ErrArg}, {two, "", api.ErrArg}, {name("x"), "1", api.ErrArg}, {name("x"), "min", api.ErrArg}, {name("x"), "a b", api.ErrArg},
		{name("x"), "a-", api.ErrArg}, {name("x"), "der(x)", api.ErrArg}, {name("x"), long + "nnn", api.ErrArg}, {two, long + "nnn", api.ErrArg},
		{name("x"), long, api.OK}, {name("xy"), long, api.ErrLarge}, {name("x"), long + "n", api.ErrLarge}, {two, long + "nn", api.OK},
		{name(long), "a", api.OK}, {name(long), "ab", api.ErrLarge}, {api.Expr{Op: api.EDer, Name: "xy"}, long, api.ErrLarge},
		{node(api.EAdd, name("x"), api.Expr{Op: api.EPre, Name: "xy"}), long, api.ErrLarge},
		{node(api.ELess, name("x"), name("xy")), long, api.ErrLarge},
		{api.Expr{}, "", api.ErrArg}, {chainOf(13), "", api.ErrLarge}, {node(api.ENot, name("x")), "", api.ErrType},
	} {
		f, err := Rename(c.e, c.prefix)
		if err != c.want || (err == api.OK) != (Validate(f) == api.OK) || err != api.OK && !same(f, api.Expr{}) {
			t.Errorf("Rename of %v with %q: %v %v, not %v", c.e, c.prefix, f, err, c.want)
		}
	}
}
