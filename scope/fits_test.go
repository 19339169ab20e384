package scope

import (
	"fmt"
	"strings"
	"testing"

	"isocline/api"
)

func TestFits(t *testing.T) {
	for _, x := range []struct {
		text string
		want bool
	}{
		{"model a; .\nmodel b; .", true},
		{"model a; Real x; .\nmodel b; .", true},
		{"model a; .\nmodel b; Real x; .", false},
		{"model a; Real y; Real x; Real z; .\nport b; Real x; Real y; .", true},
		{"model a; Real x; .\nmodel b; Real X; .", false},
		// All that is asked of a component, and what is not.
		{"model a; parameter Real x; .\nmodel b; Real x; .", false},
		{"model a; Real x; .\nmodel b; discrete Real x; .", false},
		{"model a; discrete Real x; .\nmodel b; parameter Real x; .", false},
		{"model a; parameter Real x = 2 in V; .\nmodel b; parameter Real x = 3; .", true},
		{"model a; flow Real x; .\nmodel b; Real x; .", false},
		{"model a; Real x; .\nmodel b; flow Real x; .", false},
		{"model a; flow Real x; .\nmodel b; flow Real x; .", true},
		{"model a; Real x[1]; .\nmodel b; Real x; .", false},
		{"model a; Real x[2]; .\nmodel b; Real x[3]; .", false},
		{"model a; Real x[3]; .\nmodel b; Real x[3]; .", true},
		{"model a; e x; .\nmodel b; Real x; .\nmodel e; .", false},
		{"model a; Real x; .\nmodel b; e x; .\nmodel e; .", false},
		{"model a; inner Real x when y < 1; .\nmodel b; Real x in V; equation x = 1; connect x x; .", true},
		{"model a; outer e x(q = 1) when y < 1; .\nmodel b; replaceable e x; .\nmodel e; .", true},
		// Components with classes, which are asked again.
		{"model a; c x; .\nmodel b; d x; .\nmodel c; Real y; Real z; .\nmodel d; Real y; .", true},
		{"model a; c x; .\nmodel b; d x; .\nmodel d; Real y; Real z; .\nmodel c; Real y; .", false},
		{"model a; c x; .\nmodel b; d x; .\nmodel c; d y; c z; .\nmodel d; d y; .", true},
		{"model a; c x; .\nmodel b; c x; .\nmodel c; e x; .\nmodel e; c x; .", true},
		{"model a; b x; .\nmodel b; a x; .", true},
		{"model a; b x; Real y; .\nmodel b; a x; .", false},
		{"model a; b x; a y; .\nmodel b; a x; .", false},
		{"model a; a x; Real y; .\nmodel b; b x; .", true},
		{"model a; a x; .\nmodel b; c x; .\nmodel c; d x; .\nmodel d; b x; .", true},
		{"model a; a x; .\nmodel b; c x; .\nmodel c; d x; .\nmodel d; b x; Real y; .", false},
		{"model a; b x; c y; .\nmodel b; a x; b y; .\nmodel c; b x; a y; .", true},
		{"model a; c x; d y; .\nmodel b; c x; c y; .\nmodel c; Real z; .\nmodel d; .", false},
		// The whole classes, as modifiers make them.
		{"model a; extends c; .\nmodel b; Real x; .\nmodel c; Real x; .", true},
		{"model a; Real x; .\nmodel b; extends c; .\nmodel c; Real y; .", false},
		{"model a; extends c(u is e); .\nmodel b; e u; .\nmodel c; replaceable d u; .\nmodel d; .\nmodel e; Real x; .", true},
		{"model a; extends c; .\nmodel b; e u; .\nmodel c; replaceable d u; .\nmodel d; .\nmodel e; Real x; .", false},
		{"model a; d u; .\nmodel b; extends c(u is e); .\nmodel c; replaceable d u; .\nmodel d; .\nmodel e; Real x; .", false},
		{"model a; extends c(u is d); .\nmodel b; e u; .\nmodel c; e u; .\nmodel d; .\nmodel e; Real x; .", false},
		{"model a; extends c(u is d); .\nmodel b; d u; .\nmodel c; Real u; .\nmodel d; .", true},
		{"model a; extends c(u is d); .\nmodel b; Real u; .\nmodel c; Real u; .\nmodel d; .", false},
		{"model a; extends c(u = 1); .\nmodel b; d u; .\nmodel c; d u; .\nmodel d; .", true},
		// Modifiers of components do not count.
		{"model a; c u(x is e); .\nmodel b; f u; .\nmodel c; replaceable d x; .\nmodel d; .\nmodel e; Real y; .\nmodel f; e x; .", false},
		{"model a; c u(q = 1); .\nmodel b; c u(x is d, x.y = 2); .\nmodel c; Real x; .\nmodel d; .", true},
		// Names are those of the classes in which they stand.
		{"model a; e u; .\nmodel b; e u; .\nmodel a.e; .\nmodel b.e; Real x; .\nmodel e; .", false},
	} {
		if fit, err := Fits(lib(x.text), "a", "b"); fit != x.want || err != api.OK {
			t.Errorf("Fits in %q: %v %d, not %v", x.text, fit, err, x.want)
		}
	}
}

func TestFitsErrors(t *testing.T) {
	bad := "\nmodel loop; extends loop; .\nmodel two; extends one; Real x; .\nmodel one; Real x; .\nmodel none; q u; .\nmodel path; extends one(y = 1); ."
	for s, want := range map[string]api.Errno{
		"model a; extends loop; .\nmodel b; .":                                                  api.ErrLoop,
		"model a; .\nmodel b; extends loop; .":                                                  api.ErrLoop,
		"model a; extends two; .\nmodel b; extends loop; .":                                     api.ErrTwice,
		"model a; extends none; .\nmodel b; extends loop; .":                                    api.ErrNone,
		"model a; extends path; .\nmodel b; extends loop; .":                                    api.ErrNone,
		"model a; extends loop; .\nmodel b; extends none; .":                                    api.ErrLoop,
		"model a; extends nothing; .\nmodel b; extends loop; .":                                 api.ErrNone,
		"model a; extends one; Real x; q v; .\nmodel b; .":                                      api.ErrTwice,
		"model a; Real x; loop y; .\nmodel b; .":                                                api.OK,
		"model a; loop x; .\nmodel b; one x; .":                                                 api.ErrLoop,
		"model a; one x; .\nmodel b; two x; .":                                                  api.ErrTwice,
		"model a; loop x; .\nmodel b; two x; .":                                                 api.ErrLoop,
		"model a; two x; .\nmodel b; loop x; .":                                                 api.ErrTwice,
		"model a; one x; none y; .\nmodel b; Real x; loop y; .":                                 api.OK,
		"model a; none y; one x; .\nmodel b; loop y; Real x; .":                                 api.ErrNone,
		"model a; none y; two x; .\nmodel b; one x; one y; .":                                   api.ErrTwice,
		"model a; Real z; none y; .\nmodel b; Real x; one y; .":                                 api.OK,
		"model a; none y; .\nmodel b; one y[2]; .":                                              api.OK,
		"model a; c x; none y; .\nmodel b; d x; one y; .\nmodel c; two z; .\nmodel d; one z; .": api.ErrTwice,
		"model a; a x; none y; .\nmodel b; b x; one y; .":                                       api.ErrNone,
		"model a; a x; two y; .\nmodel b; a x; one y; .":                                        api.ErrTwice,
		"model a; extends c(u = 1, v is one); .\nmodel b; one u; .\nmodel c; one u; one v; .":   api.OK,
	} {
		l := lib(s + bad)
		fit, err := Fits(l, "a", "b")
		if err != want || err != api.OK && fit {
			t.Errorf("Fits in %q: %v %d, not %d", s, fit, err, want)
		}
	}
	l := lib("model a; .\nmodel b; extends loop; ." + bad)
	for _, x := range [][2]string{{"a", "x"}, {"x", "a"}, {"b", "x"}, {"x", "b"}, {"", ""}, {"a", "Real"}} {
		if fit, err := Fits(l, x[0], x[1]); fit || err != api.ErrNone {
			t.Errorf("Fits %q, %q: %v %d", x[0], x[1], fit, err)
		}
	}
}

// TestFitsMany asks for classes within each other, by very many ways.
func TestFitsMany(t *testing.T) {
	net := func(name string, most int, last string) string {
		return strings.Join(times(most, func(i int) string {
			if i == most-1 {
				return fmt.Sprint("model ", name, i, "; ", last, " .")
			}
			return fmt.Sprint("model ", name, i, "; ", name, i+1, " x; ", name, min(i+2, most-1), " y; .")
		}), "\n") + "\n"
	}
	for last, want := range map[string]bool{"Real z;": true, "Real v;": false} {
		l := lib(net("a", 30, "Real z;") + net("b", 30, last))
		if fit, err := Fits(l, "a0", "b0"); fit != want || err != api.OK {
			t.Errorf("net to %s: %v %d", last, fit, err)
		}
	}
	// Each modifier puts in another class of the net.
	text := strings.Join(times(8, func(i int) string { return fmt.Sprint("u", i, " is a", i) }), ", ")
	uses := repeat(8, "replaceable b@ u@;")
	for last, want := range map[string]api.Errno{"Real z;": api.OK, "Real v;": api.ErrRule} {
		l := lib(net("a", 29, "Real z;") + net("b", 29, last) + "model uses; " + uses + " .\nmodel user; extends uses(" + text + "); .")
		if _, err := Whole(l, "user"); err != want {
			t.Errorf("net to %s: %d", last, err)
		}
	}
}

// TestFitsAgain asks for several rules in one call, where pairs of classes come again.
func TestFitsAgain(t *testing.T) {
	more := "\nmodel c; d x; .\nmodel d; c x; .\nmodel e; f x; .\nmodel f; e x; Real y; .\nmodel g; d x; Real y; .\nmodel uses; replaceable f u; replaceable e v; replaceable g w; replaceable d q; ."
	for s, want := range map[string]api.Errno{
		"u is f, v is e":           api.OK,
		"v is f":                   api.ErrRule,
		"u is f, v is f":           api.ErrRule,
		"q is c, w is g, q.x is c": api.OK,
		"q is g, w is g":           api.OK,
		"q is g, w is d":           api.ErrRule,
		"q is e":                   api.OK,
		"q is e, w is f":           api.OK,
		"q is e, v is d":           api.ErrRule,
		"w is c, q is c":           api.ErrRule,
	} {
		if _, err := Whole(lib("model a; extends uses("+s+"); ."+more), "a"); err != want {
			t.Errorf("Whole with %s: %d, not %d", s, err, want)
		}
	}
}
