package flat

import (
	"testing"

	"isocline/api"
)

// electric are the port and the resistor of the chapter of texts.
const electric = "port pin; Real v in V; flow Real i in A; .\n" +
	"model res; pin p; pin n; parameter Real r = 10 in Ohm; equation p.v - n.v = r * p.i; equation p.i + n.i = 0; .\n"

func TestFlatten(t *testing.T) {
	for _, x := range []struct {
		text, want string
	}{
		{"model a; .", ""},
		{"model a; Real x; flow Real y = 2 in A; discrete Real d = 1/2; parameter Real k = 3 in 1/s; .", "x; flow y = 2 in A; discrete d = 1/2; parameter k = 3 in 1/s"},
		{"model a; Real x[3] = 4; parameter Real k[2] = 1; .", "x[1] = 4; x[2] = 4; x[3] = 4; parameter k[1] = 1; parameter k[2] = 1"},
		{"port a; Real x; .", "x"},
		{electric + "model a; res r; .", "r.p.v in V; flow r.p.i in A; r.n.v in V; flow r.n.i in A; parameter r.r = 10 in Ohm; equation r.p.v - r.n.v = r.r * r.p.i; equation r.p.i + r.n.i = 0"},
		{electric + "model a; extends res; .", "p.v in V; flow p.i in A; n.v in V; flow n.i in A; parameter r = 10 in Ohm; equation p.v - n.v = r * p.i; equation p.i + n.i = 0"},
		// Components come in order, each in its place; equations, links and whens of components come ahead of those of their class.
		{"model a; b u; Real x; b v; equation x = 0; connect u v; when x < 1; set x = 1; end when; .\nmodel b; Real y; c w; equation y = 1; initial y = 2; connect w w; when y < 2; set y = 2; set w.z = 3; end when; .\nmodel c; Real z; equation z = time; connect z z; .",
			"u.y; u.w.z; x; v.y; v.w.z; equation u.w.z = time; equation u.y = 1; initial u.y = 2; equation v.w.z = time; equation v.y = 1; initial v.y = 2; equation x = 0; " +
				"connect u.w.z u.w.z @ u.w; connect u.w u.w @ u; connect v.w.z v.w.z @ v.w; connect v.w v.w @ v; connect u v; " +
				"when u.y < 2 set u.y = 2 set u.w.z = 3; when v.y < 2 set v.y = 2 set v.w.z = 3; when x < 1 set x = 1"},
		// Arrays number by number, also within each other.
		{"model a; b u[2]; equation u[1].x[2] = u[2].y.z; connect u[1].y u[2].y; .\nmodel b; Real x[2]; c y; equation x[1] = y.z; connect x[1] x[2]; .\nmodel c; Real z; .",
			"u[1].x[1]; u[1].x[2]; u[1].y.z; u[2].x[1]; u[2].x[2]; u[2].y.z; equation u[1].x[1] = u[1].y.z; equation u[2].x[1] = u[2].y.z; equation u[1].x[2] = u[2].y.z; " +
				"connect u[1].x[1] u[1].x[2] @ u[1]; connect u[2].x[1] u[2].x[2] @ u[2]; connect u[1].y u[2].y"},
		// All sorts of names have the full name of their class ahead, the time has not.
		{"model a; b u; .\nmodel b; Real x; discrete Real d; equation der(x) = if x < time then pre(d) else abs(d)^2; when pre(x) < time; set d = max(x, time); end when; .",
			"u.x; discrete u.d; equation der(u.x) = if u.x < time then pre(u.d) else abs(u.d)^2; when pre(u.x) < time set u.d = max(u.x, time)"},
		// Links between a port of the class and one within it, and of the whole class.
		{electric + "model a; b u; .\nmodel b; pin p; res r; connect p r.p; connect r.n.v p.v; .",
			"u.p.v in V; flow u.p.i in A; u.r.p.v in V; flow u.r.p.i in A; u.r.n.v in V; flow u.r.n.i in A; parameter u.r.r = 10 in Ohm; equation u.r.p.v - u.r.n.v = u.r.r * u.r.p.i; equation u.r.p.i + u.r.n.i = 0; connect u.p u.r.p @ u; connect u.r.n.v u.p.v @ u"},
	} {
		f, err := Flatten(lib(x.text), "a")
		if got := show(f); got != x.want || err != api.OK {
			t.Errorf("Flatten of %q: %d\n%s, not\n%s", x.text, err, got, x.want)
		}
		if s, err := Trouble(lib(x.text), "a"); s != "" || err != api.OK {
			t.Errorf("Trouble of %q: %s %d", x.text, s, err)
		}
		if err := Validate(f); err != api.OK {
			t.Errorf("Validate of %s: %d", show(f), err)
		}
	}
}

// TestFlattenMods puts modifiers over each other.
func TestFlattenMods(t *testing.T) {
	for _, x := range []struct {
		text, want string
	}{
		// The chapter's first example.
		{"model a; t r[2](r = 5); .\nmodel t; parameter Real r; .", "parameter r[1].r = 5; parameter r[2].r = 5"},
		{"model a; t u[2](x = 5); .\nmodel t; Real x[2] = 1; Real y = 2; .", "u[1].x[1] = 5; u[1].x[2] = 5; u[1].y = 2; u[2].x[1] = 5; u[2].x[2] = 5; u[2].y = 2"},
		// Those of outer components win over those of inner ones, and these over what is in the class.
		{"model a; b u(v.x = 1); .\nmodel b; c v(x = 2, y = 3); .\nmodel c; Real x = 4; Real y = 5; Real z = 6; .", "u.v.x = 1; u.v.y = 3; u.v.z = 6"},
		{"model a; b u(v.w.x = 1, v.w.y = 7); .\nmodel b; c v(w.x = 2, w.z = 8); .\nmodel c; d w(x = 3, y = 4, z = 5); .\nmodel d; Real x; Real y; Real z; .", "u.v.w.x = 1; u.v.w.y = 7; u.v.w.z = 8"},
		{"model a; extends b(u.x = 1); .\nmodel b; c u(x = 2, y = 3); .\nmodel c; extends d(y = 4, z = 5); .\nmodel d; Real x; Real y; Real z; .", "u.x = 1; u.y = 3; u.z = 5"},
		// A value is evaluated where the modifier stands.
		{"model a; parameter Real k = 1; b u(k = k + 10, l = k + 20); .\nmodel b; parameter Real k = 2; parameter Real l = k + 30; parameter Real m = k + 40; .",
			"parameter k = 1; parameter u.k = 11; parameter u.l = 21; parameter u.m = 51"},
		{"model a; parameter Real k = 1; b u(v.k = k + 10); .\nmodel b; parameter Real k = 2; c v(k = k + 20, l = k + 30); .\nmodel c; parameter Real k = 3; parameter Real l; parameter Real m = k; .",
			"parameter k = 1; parameter u.k = 2; parameter u.v.k = 11; parameter u.v.l = 32; parameter u.v.m = 11"},
		{"model a; extends b(k = q, u.k = q + 1); parameter Real q = 5; .\nmodel b; parameter Real k = 1; c u(k = k); .\nmodel c; parameter Real k = 2; .",
			"parameter k = 5; parameter u.k = 6; parameter q = 5"},
		{"model a; parameter Real k = 1; b u[2](k = k + v.k); b v(k = 7); .\nmodel b; parameter Real k; .", "parameter k = 1; parameter u[1].k = 8; parameter u[2].k = 8; parameter v.k = 7"},
		// Another class comes in, and the modifiers over it stay.
		{"model a; b u(v is d, v.x = 1, v.y = 2); .\nmodel b; replaceable c v(x = 3, z = 4); .\nmodel c; Real x; Real z; .\nmodel d; Real x; Real z; Real y; equation x = y; .", "u.v.x = 1; u.v.z = 4; u.v.y = 2; equation u.v.x = u.v.y"},
		{"model p.a; p.b u(v is d); .\nmodel p.b; replaceable q.d v; .\nmodel p.d; Real x; .\nmodel q.d; .\nmodel d; .", "u.v.x"},
		{"model a; b u(v is d, w is e); .\nmodel b; replaceable c v; replaceable c w; .\npartial c; .\nmodel d; Real x; .\nmodel e; Real y; .", "u.v.x; u.w.y"},
	} {
		l := lib(x.text)
		f, err := Flatten(l, l[0].Name)
		if got := show(f); got != x.want || err != api.OK {
			t.Errorf("Flatten of %q: %d\n%s, not\n%s", x.text, err, got, x.want)
		}
	}
}

// TestFlattenValues evaluates parameters, start values and conditions in the order of their dependences.
func TestFlattenValues(t *testing.T) {
	for _, x := range []struct {
		text, want string
	}{
		// The chapter's second example.
		{"model a; parameter Real a = b + 1; parameter Real b = 2; .", "parameter a = 3; parameter b = 2"},
		{"model a; parameter Real p = u[2].k * v.w.k; b u[2](k = q); c v; parameter Real q = 3; Real x = p + 1; discrete Real d = q / 2; .\nmodel b; parameter Real k; .\nmodel c; b w(k = 5); Real y = w.k^2; .",
			"parameter p = 15; parameter u[1].k = 3; parameter u[2].k = 3; parameter v.w.k = 5; v.y = 25; parameter q = 3; x = 16; discrete d = 3/2"},
		{"model a; parameter Real p[3] = q; parameter Real q = p2[1]; parameter Real p2[2] = 4; .", "parameter p[1] = 4; parameter p[2] = 4; parameter p[3] = 4; parameter q = 4; parameter p2[1] = 4; parameter p2[2] = 4"},
		{"model a; parameter Real p = if q < 1 then 1 / 0 else q; parameter Real q = 2; .", "parameter p = 2; parameter q = 2"},
		{"model a; parameter Real p = 1000000 * 1000000 * 1000000 / 1000000000; .", "parameter p = 1000000000"},
		// What has a condition that is false is left out with all in it, and with its links.
		{"model a; parameter Real k = 2; b u when k < 1; b v when k < 3; Real x when 2 < k; connect u v; connect v u.x; connect v.x v.x; connect x v.x; .\nmodel b; Real x; equation x = 1; .",
			"parameter k = 2; v.x; equation v.x = 1; connect v.x v.x"},
		{"model a; b u[2] when 1 < 0; b v[2]; connect u[1] v[1]; connect v[1] v[2]; connect u[1].x v[1].x; .\nmodel b; Real x; .", "v[1].x; v[2].x; connect v[1] v[2]"},
		{"model a; b u(k = 1); b v(k = 3); .\nmodel b; parameter Real k = 0; Real x when k < 2; Real y when not k < 2; connect x x; connect y y; .",
			"parameter u.k = 1; u.x; parameter v.k = 3; v.y; connect u.x u.x @ u; connect v.y v.y @ v"},
		// What is left out is asked nothing.
		{"model a; b u when 1 < 0; none v(x = 1); partly w when 1 < 0; a x when 1 < 0; .\nmodel b; extends b; .\nmodel none; Real x; .\npartial partly; outer none q(x = 2); parameter Real k; .", "v.x = 1"},
		// A condition may name what is met later, and what depends on other conditions.
		{"model a; Real x when u.k < 2; Real y when u.k < 1; b u when 0 < v.k; b v(k = 2); .\nmodel b; parameter Real k = 1; .", "x; parameter u.k = 1; parameter v.k = 2"},
		{"model a; parameter Real k = 1 when l < 5; parameter Real l = 4 when 0 < m; parameter Real m = 3; Real x when k < 2 and 1 <= m; .", "parameter k = 1; parameter l = 4; parameter m = 3; x"},
		// Of a class with a condition each instance has its own.
		{"model a; parameter Real k = 1; b u[2](s = k); b v; .\nmodel b; parameter Real s = 0; Real x when s < 1; Real z[2] when 0 < s; .",
			"parameter k = 1; parameter u[1].s = 1; u[1].z[1]; u[1].z[2]; parameter u[2].s = 1; u[2].z[1]; u[2].z[2]; parameter v.s = 0; v.x"},
		// What depends on a value need not ask it.
		{"model a; Real x when 1 < 0 and k < 1; Real y when 0 < 1 or k < 1; parameter Real k = 5; .", "y; parameter k = 5"},
	} {
		f, err := Flatten(lib(x.text), "a")
		if got := show(f); got != x.want || err != api.OK {
			t.Errorf("Flatten of %q: %d\n%s, not\n%s", x.text, err, got, x.want)
		}
	}
}

// TestFlattenOuter follows names to components with OInner.
func TestFlattenOuter(t *testing.T) {
	world := "model w; Real g; parameter Real k = 7; .\n"
	for _, x := range []struct {
		text, want string
	}{
		{world + "model a; inner w o; b u; .\nmodel b; outer w o; Real x = o.k; equation x = o.g; when o.g < time; set o.g = x; set x = o.g; end when; .",
			"o.g; parameter o.k = 7; u.x = 7; equation u.x = o.g; when o.g < time set o.g = u.x set u.x = o.g"},
		// The nearest class around it that has one, not one beside or within it, nor one of another scope.
		{world + "model a; inner w o(k = 1); b u; c v; .\nmodel b; inner w o(k = 2); c v; .\nmodel c; outer w o; d q; .\nmodel d; w o(k = 3); e p; .\nmodel e; outer w o; Real y = o.k; .",
			"o.g; parameter o.k = 1; u.o.g; parameter u.o.k = 2; u.v.q.o.g; parameter u.v.q.o.k = 3; u.v.q.p.y = 2; v.q.o.g; parameter v.q.o.k = 3; v.q.p.y = 1"},
		// One that is met later, or is an array or a variable.
		{world + "model a; b u; inner w o[2]; .\nmodel b; outer w o[2]; Real x = o[2].k; equation x = o[1].g; .", "u.x = 7; o[1].g; parameter o[1].k = 7; o[2].g; parameter o[2].k = 7; equation u.x = o[1].g"},
		{"model a; b u; inner parameter Real k = 4; inner Real x[2]; .\nmodel b; outer Real k; outer Real x[2]; Real y = k + 1; equation der(x[1]) = pre(k); .", "u.y = 5; parameter k = 4; x[1]; x[2]; equation der(x[1]) = pre(k)"},
		// In of a link with such an end.
		{electric + "model a; b c; .\nmodel b; inner pin o; d e; .\nmodel d; outer pin o; pin p; inner pin q; f g; connect o p; connect p.v o.v; .\nmodel f; outer pin o; outer pin q; pin p; connect q p; connect o q; connect q o; connect p p; .",
			"c.o.v in V; flow c.o.i in A; c.e.p.v in V; flow c.e.p.i in A; c.e.q.v in V; flow c.e.q.i in A; c.e.g.p.v in V; flow c.e.g.p.i in A; " +
				"connect c.e.q c.e.g.p @ c.e; connect c.o c.e.q @ c; connect c.e.q c.o @ c; connect c.e.g.p c.e.g.p @ c.e.g; connect c.o c.e.p @ c; connect c.e.p.v c.o.v @ c"},
		{electric + "model a; inner pin o; b c; .\nmodel b; outer pin o; pin p; connect o p; .", "o.v in V; flow o.i in A; c.p.v in V; flow c.p.i in A; connect o c.p"},
		// One that is left out.
		{electric + "model a; inner pin o when 1 < 0; b c; .\nmodel b; outer pin o; pin p; connect o p; connect p p; .", "c.p.v in V; flow c.p.i in A; connect c.p c.p @ c"},
		// A condition may name it.
		{world + "model a; inner w o(k = 1); b u; .\nmodel b; outer w o; Real x when o.k < 2; Real y when 1 < o.k; .", "o.g; parameter o.k = 1; u.x"},
		// The class that is put in counts.
		{world + "model a; inner replaceable w o; c u(b is x); .\nmodel c; replaceable b b; .\nmodel b; .\nmodel x; outer replaceable w o; Real x = o.k; .", "o.g; parameter o.k = 7; u.b.x = 7"},
	} {
		f, err := Flatten(lib(x.text), "a")
		if got := show(f); got != x.want || err != api.OK {
			t.Errorf("Flatten of %q: %d\n%s, not\n%s", x.text, err, got, x.want)
		}
	}
}

// TestFlattenMany makes as much as there may be.
func TestFlattenMany(t *testing.T) {
	most := "model a; " + times(8, "b u@;") + times(16, "initial u0.x = @;") + times(16, "connect u0 u0;") + times(16, "when 0 < 1; end when;") + " .\n" +
		"model b; Real x; Real y[7]; " + times(10, "equation x = @;") + times(10, "connect x x;") + times(10, "when 1 < x; set x = 1; end when;") + " ."
	f, err := Flatten(lib(most), "a")
	if err != api.OK || len(f.Vars) != 64 || len(f.Eqs) != 96 || len(f.Links) != 96 || len(f.Whens) != 96 {
		t.Errorf("%d %d %d %d %d", err, len(f.Vars), len(f.Eqs), len(f.Links), len(f.Whens))
	}
	// 1000 components: 8 + 64 + 512 and 8 * 52, and 60 bytes of a name.
	many := "model a; b u[8]; f v[8]; .\nmodel b; c u[8]; .\nmodel c; d u[8]; .\nmodel d; .\n" +
		"model f; d u[8]; d v[8]; d w[8]; d x[8]; d y[8]; d z[8]; d k; d l; d m; d n when 1 < 0; ."
	if f, err := Flatten(lib(many), "a"); err != api.OK || len(f.Vars) != 0 {
		t.Errorf("%d %d", err, len(f.Vars))
	}
	long := "model a; b abcdefghijklmnop; .\nmodel b; d abcdefghijklmnop; .\nmodel d; c abcdefghij; .\nmodel c; Real abcdefghijklmno; ."
	f, err = Flatten(lib(long), "a")
	if err != api.OK || len(f.Vars) != 1 || len(f.Vars[0].Name) != 60 {
		t.Errorf("%d %v", err, f)
	}
}
