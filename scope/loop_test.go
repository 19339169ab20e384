package scope

import (
	"fmt"
	"strings"
	"testing"

	"isocline/api"
)

func TestLoop(t *testing.T) {
	for _, x := range []struct {
		text, want string
	}{
		{"", ""},
		{nested, ""},
		{"model a; Real x; .", ""},
		{"model a; a x; .", "a"},
		{"model a; b x; .\nmodel b; a x; .", "a b"},
		{"model a; b x; .\nmodel b; b x; .", "b"},
		{"model a; b x; .\nmodel b; c x; .\nmodel c; b x; .", "b c"},
		// The least class, even if another one has a shorter cycle.
		{"model b; c x; .\nmodel c; a x; .\nmodel a; b y; .\nmodel d; d x; .", "b c a"},
		{"model b; c x; .\nmodel c; c x; .\nmodel a; b y; .", "c"},
		// The shortest one, whatever the numbers are.
		{"model a; b x; d y; .\nmodel b; c x; .\nmodel c; a x; .\nmodel d; a x; .", "a d"},
		{"model a; b x; a y; .\nmodel b; a x; .", "a"},
		{"model a; d x; e y; .\nmodel b; a x; .\nmodel c; a y; .\nmodel d; c z; .\nmodel e; b z; .", "a d c"},
		// Of several shortest ones the least by numbers, whatever their names and the order of components are.
		{"model z; x v; y u; .\nmodel y; z u; .\nmodel x; z u; .", "z y"},
		{"model a; e x; c y; .\nmodel b; a x; .\nmodel c; d y; .\nmodel d; a z; .\nmodel e; b z; .", "a c d"},
		{"model a; b x; .\nmodel b; d x; c y; .\nmodel c; a y; .\nmodel d; a z; .", "a b c"},
		// No matter which Size or Cond, nor what Mods say; but by whole classes.
		{"model a; b x[3] when time < 1; .\nmodel b; outer a x; .", "a b"},
		{"model a; replaceable b x; .\nmodel b; .\nmodel c; a y(x is d); .\nmodel d; c y; .", ""},
		{"model a; extends b; .\nmodel b; a x; .", "a"},
		{"model b; a x; .\nmodel a; extends b; .", "a"},
		{"model b; c x; .\nmodel a; extends b; .\nmodel c; a y; .", "a c"},
		{"model a; extends b(x is a); .\nmodel b; replaceable c x; .\nmodel c; .", "a"},
		{"model a; extends b(x is c); .\nmodel b; replaceable b x; .\nmodel c; b x; .", "b"},
		{"model p.a; b x; .\nmodel p.b; a x; .\nmodel b; .", "p.a p.b"},
		{"model p.a; b x; .\nmodel b; a x; .\nmodel a; .", ""},
	} {
		l, is, err := Loop(lib(x.text))
		if got := strings.Join(l, " "); got != x.want || is != (x.want != "") || err != api.OK {
			t.Errorf("Loop of %q: %s %v %d, not %s", x.text, got, is, err, x.want)
		}
	}
}

func TestLoopErrors(t *testing.T) {
	for s, want := range map[string]api.Errno{
		"model a; a x; .\nmodel b; q x; .":                                                 api.ErrNone,
		"model a; extends a; .\nmodel b; q x; .":                                           api.ErrLoop,
		"model b; q x; .\nmodel a; extends a; .":                                           api.ErrNone,
		"model a; extends b; Real x; .\nmodel b; Real x; q u; .":                           api.ErrTwice,
		"model b; Real x; .\nmodel a; extends b(x.y = 1); .\nmodel c; extends b(y = 1); .": api.ErrType,
		"model b; b x; .\nmodel a; extends b(x is b); .":                                   api.ErrRule,
		"model b; " + repeat(40, "Real x@;") + " .\nmodel a; extends b; Real y; .":         api.ErrLarge,
	} {
		if l, is, err := Loop(lib(s)); len(l) != 0 || is || err != want {
			t.Errorf("Loop of %q: %v %v %d, not %d", s, l, is, err, want)
		}
	}
}

// TestLoopMany asks for a cycle of all classes there can be.
func TestLoopMany(t *testing.T) {
	text := strings.Join(times(60, func(i int) string { return fmt.Sprint("model c", i, "; c", (i+7)%60, " x; .") }), "\n")
	l, is, err := Loop(lib(text))
	if !is || err != api.OK || len(l) != 60 || l[0] != "c0" || l[1] != "c7" || l[59] != "c53" {
		t.Errorf("%v %v %d", l, is, err)
	}
}
