package scope

import (
	"fmt"
	"strings"
	"testing"

	"isocline/api"
)

func TestWhole(t *testing.T) {
	for _, x := range []struct {
		text, name, want string
	}{
		{example, "c", "model c; Real x = 4; end c"},
		{example, "b", "model b; Real x = 3; end b"},
		{example, "a", "model a; Real x; end a"},
		// The kind is that of the class itself, and what is extended comes ahead, each kind of parts for itself.
		{"partial a; Real x; equation x = 1; initial x = 2; connect x y; when x < 1; set x = 1; end when; .\nport b; extends a; Real y; equation y = 2; connect y x; when y < 2; end when; .",
			"b", "port b; Real x; Real y; equation x = 1; initial x = 2; equation y = 2; connect x y; connect y x; when x < 1; set x = 1; end when; when y < 2; end when; end b"},
		{"model a; extends b; extends c; Real v; .\npartial b; extends d; Real x; equation x = 1; .\npartial c; extends d; Real y; equation y = 1; .\npartial d; Real z; equation z = 1; connect z z; when z < 1; end when; .",
			"a", "model a; Real z; Real x; Real y; Real v; equation z = 1; equation x = 1; equation y = 1; connect z z; when z < 1; end when; end a"},
		// A class that is extended by two ways has the modifiers of the first way alone.
		{"model a; extends b(x = 1); extends c(x = 2, y = 3); .\nmodel b; extends d(y = 4); .\nmodel c; extends d(x = 5, y = 6); .\nmodel d; Real x = 7; Real y = 8; .", "a", "model a; Real x = 1; Real y = 4; end a"},
		{"model a; extends d(x = 1); extends c(y = 2); .\nmodel c; extends d(x = 5, y = 6); Real z; .\nmodel d; Real x = 7; Real y; .", "a", "model a; Real x = 1; Real y; Real z; end a"},
		{"model a; extends d(x = 1); extends d(x = 2, y = 3); .\nmodel d; Real x; Real y; .", "a", "model a; Real x = 1; Real y; end a"},
		// The nearest modifier wins at each level, by the whole way.
		{"model a; extends b(x = 1); .\nmodel b; extends c(x = 2, y = 3); .\nmodel c; extends d(x = 4, y = 5, z = 6); .\nmodel d; Real x; Real y; Real z; Real w = 7; .", "a", "model a; Real x = 1; Real y = 3; Real z = 6; Real w = 7; end a"},
		// A value keeps all else of the component, and may be an expression of names that stand elsewhere.
		{"model a; extends b(x = q * 2); .\nmodel b; parameter Real x[2] = 1 in V when x < 1; .", "a", "model a; parameter Real x[2] = q * 2 in V when x < 1; end a"},
		// Deep modifiers go into those of the component, which keep their places.
		{"model a; extends b(u.x = 1, u.z.w = 2, u.y is t); .\nmodel b; t u(v = 3, x = 4, y = 5); .\nmodel t; .", "a", "model a; t u(v = 3, x = 1, y is t, z.w = 2); end a"},
		{"model a; extends b(u.x = 1, u.y = 2); .\nmodel b; extends c(u.y = 3, u.z = 4); .\nmodel c; t u(w = 5, z = 6); .\nmodel t; .", "a", "model a; t u(w = 5, z = 4, y = 2, x = 1); end a"},
		{"model a; extends b(u.x = 1, v.x = 2); .\nmodel b; t u; t v; .\nmodel t; .", "a", "model a; t u(x = 1); t v(x = 2); end a"},
		// Another class keeps all else, too.
		{"model a; extends b(u is s, u.x = 1); .\nmodel b; outer replaceable t u[3](y = 2) when x < 1; .\nmodel t; .\nmodel s; .", "a", "model a; outer replaceable s u[3](y = 2, x = 1) when x < 1; end a"},
		{"model a; extends b(u is t); .\nmodel b; extends c(u is s); .\nmodel c; replaceable t u; .\nmodel t; .\nmodel s; .", "a", "model a; replaceable t u; end a"},
		// Types are those of the class in which they stand.
		{"model p.a; extends q.b(v is t); t u; .\npartial q.b; t w; replaceable t v(x is t, y is q.t); .\nmodel p.t; .\nmodel q.t; .\nmodel t; .", "p.a", "model p.a; q.t w; replaceable p.t v(x is q.t, y is q.t); p.t u; end p.a"},
		{"model p.a; extends q.b(v.x is t); .\npartial q.b; extends r.c(v is t); .\nmodel r.c; replaceable t v(x is t, z is t); .\nmodel p.t; .\nmodel q.t; .\nmodel t; .", "p.a", "model p.a; replaceable q.t v(x is p.t, z is t); end p.a"},
		{"model p.a; p.x u; x v; .\nmodel p.x; .\nmodel p.a.x; .\nmodel p.p.x; .", "p.a", "model p.a; p.p.x u; p.a.x v; end p.a"},
		// What is wrong elsewhere, or deeper, is not asked.
		{"model a; t u(x = 1); .\nmodel t; extends t; .", "a", "model a; t u(x = 1); end a"},
		{"model a; t u(q = 1, r.s is t); a v(y.z = 1); .\nmodel t; Real x; extra y; .\nmodel c; nothing n; .", "a", "model a; t u(q = 1, r.s is t); a v(y.z = 1); end a"},
	} {
		c, err := Whole(lib(x.text), x.name)
		if err != api.OK {
			t.Errorf("Whole of %s in %q: %d", x.name, x.text, err)
		} else if got := text(c); got != x.want {
			t.Errorf("Whole of %s: %s, not %s", x.name, got, x.want)
		}
	}
}

// TestWholeManyWays asks for the whole of a class whose base is reached by very many ways.
func TestWholeManyWays(t *testing.T) {
	c, err := Whole(lib(ladder()), "c0")
	if err != api.OK || text(c) != "model c0; Real x = 0; end c0" {
		t.Errorf("%s %d", text(c), err)
	}
}

// numbered is a text of classes b0 to b(n-1), with some lines each in which # is the number.
func numbered(n int, lines string) string {
	return strings.Join(times(n, func(i int) string {
		return fmt.Sprint("model b", i, "; ", strings.ReplaceAll(lines, "#", fmt.Sprint(i)), " .")
	}), "\n")
}

// repeat are lines with the numbers from 0 to n-1.
func repeat(n int, line string) string {
	return strings.Join(times(n, func(i int) string { return strings.ReplaceAll(line, "@", fmt.Sprint(i)) }), " ")
}

// TestWholeSizes asks for classes that are just small enough, and for those that are too large by one.
func TestWholeSizes(t *testing.T) {
	for _, x := range []struct{ part, more string }{
		{repeat(20, "Real x#y@;"), "Real z;"},
		{repeat(20, "equation x = @;"), "initial x = 1;"},
		{repeat(20, "connect a@ b;"), "connect a b;"},
		{repeat(20, "when x < @; end when;"), "when x < 1; end when;"},
	} {
		for more, want := range map[string]api.Errno{"": api.OK, x.more: api.ErrLarge} {
			c, err := Whole(lib("model a; extends b0; extends b1; "+more+" .\n"+numbered(2, x.part)), "a")
			if err != want || want != api.OK && !same(c, api.Class{}) || want == api.OK && len(c.Comps)+len(c.Eqs)+len(c.Links)+len(c.Whens) != 40 {
				t.Errorf("%s %s: %d, not %d", x.part, more, err, want)
			}
		}
	}
	mod := func(from, n int, path string) string {
		return strings.Join(times(n, func(i int) string { return fmt.Sprint(path, from+i, " = 1") }), ", ")
	}
	for extra, want := range map[string]api.Errno{mod(4, 4, "u.x"): api.OK, mod(4, 5, "u.x"): api.ErrLarge, mod(0, 8, "u.x"): api.OK} {
		if _, err := Whole(lib("model a; extends b("+extra+"); .\nmodel b; t u("+mod(0, 4, "x")+"); .\nmodel t; ."), "a"); err != want {
			t.Errorf("modifiers %s: %d, not %d", extra, err, want)
		}
	}
	// There may be more modifiers along the way than a list may have, if only they go into several components.
	c, err := Whole(lib("model a; extends b("+mod(0, 8, "u.x")+"); .\nmodel b; extends c("+mod(0, 8, "v.x")+"); .\nmodel c; t u; t v; .\nmodel t; ."), "a")
	if err != api.OK || len(c.Comps[0].Mods) != 8 || len(c.Comps[1].Mods) != 8 {
		t.Errorf("two components: %v %d", c, err)
	}
	// A base alone may have too many, by its own way to a class that is met before.
	c, err = Whole(lib("model a; extends c; extends b; .\nmodel b; extends c("+mod(4, 8, "u.x")+"); .\nmodel c; t u("+mod(0, 4, "x")+"); .\nmodel t; ."), "a")
	if err != api.OK || len(c.Comps[0].Mods) != 4 {
		t.Errorf("other way: %v %d", c, err)
	}
}
