package scope

import (
	"testing"

	"isocline/api"
)

// rest are classes that the cases of this file use: s fits t, and r does not.
const rest = "\nmodel t; Real x; .\nmodel s; Real x; Real y; .\nmodel r; Real y; .\nmodel loops; extends loops; .\nmodel twins; extends t; Real x; .\nmodel names; nothing n; .\nmodel types; extends uses(u = 1); .\nmodel uses; replaceable t u; .\nmodel rules; extends uses(u is r); ."

// troubles are classes a with the errors of Whole.
func troubles() map[string]api.Errno {
	return map[string]api.Errno{
		// Two components of one name, though of one sort, though one is far off.
		"model a; extends t; Real x; .":                           api.ErrTwice,
		"model a; extends t; extends s; .":                        api.ErrTwice,
		"model a; extends b; extends t; .\nmodel b; Real x; .":    api.ErrTwice,
		"model a; extends t; Real y; .":                           api.OK,
		"model a; extends t; extends b; .\nmodel b; extends t; .": api.OK,
		// Types that mean no class, wherever they stand.
		"model a; q u; .":                                                               api.ErrNone,
		"model a; extends b; .\nmodel b; q u; .":                                        api.ErrNone,
		"model a; t u(x is q); .":                                                       api.ErrNone,
		"model a; extends b; .\nmodel b; t u(x is q); .":                                api.ErrNone,
		"model a; extends uses(u is q); .":                                              api.ErrNone,
		"model a; extends uses(u.x is q); .":                                            api.ErrNone,
		"model a; extends b(u is t); .\nmodel b; extends uses(u is q); .":               api.ErrNone,
		"model a; extends b(u.x is t); .\nmodel b; t u(x is q); .":                      api.ErrNone,
		"model a; extends uses; extends uses(u is q); .":                                api.ErrNone,
		"model p.a; extends b; .\nmodel b; q u; .\nmodel p.q; .\nmodel a; extends b; .": api.ErrNone,
		// Paths whose first name is that of no component of the base, though it may be one of the class.
		"model a; extends t(y = 1); .":                                       api.ErrNone,
		"model a; extends t(y is t); .":                                      api.ErrNone,
		"model a; extends t(y.x = 1); .":                                     api.ErrNone,
		"model a; extends t(y = 1); Real y; .":                               api.ErrNone,
		"model a; extends r(x = 1); extends t; .":                            api.ErrNone,
		"model a; extends b; .\nmodel b; extends t(y = 1); .":                api.ErrNone,
		"model a; extends b(x = 1); .\nmodel b; extends t; .":                api.OK,
		"model a; extends t; extends t(y = 1); .":                            api.ErrNone,
		"model a; extends b(y = 1); .\nmodel b; extends t(y = 2); Real y; .": api.ErrNone,
		// Modifiers of another sort than the component.
		"model a; extends uses(u = 1); .":                                api.ErrType,
		"model a; extends t(x is t); .":                                  api.ErrType,
		"model a; extends t(x.y = 1); .":                                 api.ErrType,
		"model a; extends t(x.y is t); .":                                api.ErrType,
		"model a; extends uses(u.x.y = 1); .":                            api.OK,
		"model a; extends uses(u.q = 1); .":                              api.OK,
		"model a; extends uses; extends uses(u = 1); .":                  api.ErrType,
		"model a; extends b(u is s); .\nmodel b; extends uses(u = 1); .": api.ErrType,
		"model a; extends b(u.y = 1); .\nmodel b; extends c(u.y.z = 1); .\nmodel c; t u(y is t, z = 2); .": api.OK,
		// Modifiers that break rules.
		"model a; extends b(u is t); .\nmodel b; t u; .":                                            api.ErrRule,
		"model a; extends uses(u is r); .":                                                          api.ErrRule,
		"model a; extends uses(u is s); .":                                                          api.OK,
		"model a; extends uses(u is t); .":                                                          api.OK,
		"model a; extends b(u is t); .\nmodel b; replaceable s u; .":                                api.ErrRule,
		"model a; extends b(u is t); .\nmodel b; extends c(u is s); .\nmodel c; replaceable t u; .": api.OK,
		"model a; extends b(u is s); .\nmodel b; extends uses(u is r); .":                           api.ErrRule,
		"model a; extends uses; extends uses(u is r); .":                                            api.ErrRule,
		"model a; extends uses(u.v is r); .":                                                        api.OK,
		// A class with an error does not fit, whatever the error is, and wherever it is asked.
		"model a; extends uses(u is loops); .":                                                             api.ErrRule,
		"model a; extends uses(u is twins); .":                                                             api.ErrRule,
		"model a; extends uses(u is names); .":                                                             api.ErrRule,
		"model a; extends b(u is loops); .\nmodel b; replaceable loops u; .":                               api.ErrRule,
		"model a; extends b(u is c); .\nmodel b; replaceable d u; .\nmodel c; names v; .\nmodel d; t v; .": api.ErrRule,
		"model a; extends b(u is c); .\nmodel b; replaceable d u; .\nmodel c; t v; .\nmodel d; names v; .": api.ErrRule,
		// But only errors of bases and names are errors for it.
		"model a; extends b(u is types); .\nmodel b; replaceable types u; .":              api.OK,
		"model a; extends b(u is rules); .\nmodel b; replaceable uses u; .":               api.ErrRule,
		"model a; extends b(u is rules); .\nmodel b; replaceable c u; .\nmodel c; r u; .": api.OK,
		"model a; extends b(u is uses); .\nmodel b; replaceable rules u; .":               api.ErrRule,
	}
}

// orders are classes a with several errors; each line has one more of those that come ahead.
func orders() map[string]api.Errno {
	large := "; " + repeat(40, "Real q@;")
	return map[string]api.Errno{
		"model a; extends b(u is r)" + large + " .\nmodel b; replaceable t u; .":                                          api.ErrRule,
		"model a; extends b(u is t)" + large + " .\nmodel b; replaceable t u; .":                                          api.ErrLarge,
		"model a; extends b(u is r); extends c(v = 1); .\nmodel b; replaceable t u; .\nmodel c; t v; .":                   api.ErrType,
		"model a; extends c(v = 1); extends b; .\nmodel b; extends d(q = 1); .\nmodel c; t v; .\nmodel d; .":              api.ErrNone,
		"model a; extends c(v = 1); extends b; q w; .\nmodel b; .\nmodel c; t v; .":                                       api.ErrNone,
		"model a; extends c(w = 1); extends b; q w; .\nmodel b; Real y; .\nmodel c; Real y; .":                            api.ErrTwice,
		"model a; extends c(w = 1); extends b; extends loops; q w; .\nmodel b; Real y; .\nmodel c; Real y; .":             api.ErrLoop,
		"model a; extends c(w = 1); extends b; extends nothing; q w; .\nmodel b; Real y; .\nmodel c; Real y; .":           api.ErrNone,
		"model a; extends c(w = 1); extends b; extends nothing; extends loops; .\nmodel b; Real y; .\nmodel c; Real y; .": api.ErrNone,
	}
}

func TestTroubles(t *testing.T) {
	for _, cases := range []map[string]api.Errno{troubles(), orders()} {
		for s, want := range cases {
			c, err := Whole(lib(s+rest), "a")
			if err != want || want != api.OK && !same(c, api.Class{}) {
				t.Errorf("Whole of %q: %v %d, not %d", s, c, err, want)
			}
		}
	}
	for _, name := range []string{"", "b", "Real", "t."} {
		if c, err := Whole(lib(rest), name); err != api.ErrNone || !same(c, api.Class{}) {
			t.Errorf("Whole of %q: %v %d", name, c, err)
		}
	}
}

// TestMemberTroubles asks for the same errors where modifiers stand at a component.
func TestMemberTroubles(t *testing.T) {
	for s, want := range map[string]api.Errno{
		"t u(y = 1)":              api.ErrNone,
		"t u(x = 1)":              api.OK,
		"t u(x is t)":             api.ErrType,
		"t u(x.y = 1)":            api.ErrType,
		"uses u(u = 1)":           api.ErrType,
		"uses u(u is s)":          api.OK,
		"uses u(u is r)":          api.ErrRule,
		"uses u(u is names)":      api.ErrRule,
		"uses u(u.q = 1)":         api.OK,
		"fixed u(u is t)":         api.ErrRule,
		"other u(u is t)":         api.OK,
		"other u(u is s)":         api.OK,
		"twins u(q = 1)":          api.ErrTwice,
		"names u(q = 1)":          api.ErrNone,
		"types u(q = 1)":          api.ErrNone,
		"types u":                 api.ErrType,
		"types u(u is r)":         api.ErrType,
		"rules u(u is s)":         api.ErrRule,
		"rules u":                 api.ErrRule,
		"loops u(q = 1)":          api.ErrLoop,
		"t u(x = 1, y = 2)":       api.ErrNone,
		"wide u(u.v0 = 1)":        api.ErrLarge,
		"wide u":                  api.OK,
		"wide u(u.w0 = 1)":        api.OK,
		"wide u(u is r)":          api.ErrRule,
		"t u(x = 1, x.y is wide)": api.ErrType,
	} {
		more := "\nmodel fixed; t u; .\nmodel other; extends uses(u is s); .\nmodel wide; t u(" + "w0 = 1, w1 = 1, w2 = 1, w3 = 1, w4 = 1, w5 = 1, w6 = 1, w7 = 1); Real x; ."
		l := lib("model a; " + s + "; ." + rest + more)
		if _, err := Whole(l, "a"); err != api.OK {
			t.Errorf("Whole with %s: %d", s, err)
		}
		if _, err := Member(l, "a", "u"); err != api.OK {
			t.Errorf("Member with %s: %d", s, err)
		}
		// Some of the classes have x, the other ones u.
		_, err := Member(l, "a", "u.x")
		if err == api.ErrNone {
			_, err = Member(l, "a", "u.u")
		}
		if err != want {
			t.Errorf("Member with %s: %d, not %d", s, err, want)
		}
	}
}
