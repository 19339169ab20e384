package scope

import (
	"fmt"
	"strings"
	"testing"

	"isocline/api"
)

// example is the library of the chapter's first example.
const example = "model a; Real x; .\nmodel b; extends a(x = 3); .\nmodel c; extends b(x = 4); extends a(x = 5); .\n"

func TestBases(t *testing.T) {
	for _, x := range []struct {
		text, name, want string
	}{
		{example, "c", "a b c"},
		{example, "b", "a b"},
		{example, "a", "a"},
		{"model c; extends a; extends b; .\nmodel b; extends a; .\nmodel a; .", "c", "a b c"},
		{"model e; extends c; extends d; .\nmodel d; extends b; extends a; .\nmodel c; extends a; extends b; .\nmodel b; extends z; .\nmodel a; .\nmodel z; .", "e", "a z b c d e"},
		{"model a; extends b; extends b; extends b; .\nmodel b; .", "a", "b a"},
		{"model p.a; extends b; extends p.b; .\nmodel p.b; extends c; .\nmodel b; .\nmodel p.b.c; .\nmodel c; .", "p.a", "p.b.c p.b p.a"},
		{"model a; Real x; b y; .\nmodel b; extends e; .", "a", "a"},
		{"model a; extends b; .\nmodel b; Real x; Real y; .\nmodel c; extends c; .", "a", "b a"},
	} {
		l, err := Bases(lib(x.text), x.name)
		if got := strings.Join(l, " "); got != x.want || err != api.OK {
			t.Errorf("Bases of %s: %s %d, not %s", x.name, got, err, x.want)
		}
	}
}

func TestBasesErrors(t *testing.T) {
	for _, x := range []struct {
		text, name string
		err        api.Errno
	}{
		{example, "d", api.ErrNone},
		{example, "", api.ErrNone},
		{"model a; extends b; .", "a", api.ErrNone},
		{"model a; extends b; .\nmodel b; extends c; .", "a", api.ErrNone},
		{"model a; extends b; .\nmodel p.b; .", "a", api.ErrNone},
		{"model a; extends a; .", "a", api.ErrLoop},
		{"model a; extends b; .\nmodel b; extends a; .", "b", api.ErrLoop},
		{"model a; extends b; .\nmodel b; extends c; .\nmodel c; extends b; .", "a", api.ErrLoop},
		{"model a; extends b; extends x; .\nmodel b; extends a; .", "a", api.ErrLoop},
		{"model a; extends b; .\nmodel b; extends x; extends a; .", "a", api.ErrNone},
		{"model a; extends b; .\nmodel b; extends a; extends x; .", "a", api.ErrLoop},
		{"model a; extends x; extends a; .", "a", api.ErrNone},
		{"model a; extends b; extends c; .\nmodel b; .\nmodel c; extends b; extends c; .", "a", api.ErrLoop},
	} {
		if l, err := Bases(lib(x.text), x.name); len(l) != 0 || err != x.err {
			t.Errorf("Bases of %s in %q: %v %d, not %d", x.name, x.text, l, err, x.err)
		}
	}
}

// chain is a text of n classes, each of which extends the next one.
func chain(n int) string {
	l := times(n, func(i int) string { return fmt.Sprint("model c", i, "; extends c", i+1, "; .") })
	l[n-1] = fmt.Sprint("model c", n-1, "; Real x; .")
	return strings.Join(l, "\n")
}

// TestBasesMany asks for as many bases as there can be, and for bases that are reached by very many ways.
func TestBasesMany(t *testing.T) {
	l, err := Bases(lib(chain(60)), "c0")
	if err != api.OK || len(l) != 60 || l[0] != "c59" || l[59] != "c0" {
		t.Errorf("chain: %v %d", l, err)
	}
	l, err = Bases(lib(ladder()), "c0")
	if err != api.OK || len(l) != 60 || l[0] != "c59" || l[59] != "c0" {
		t.Errorf("ladder: %v %d", l, err)
	}
}

// ladder is a text of classes, each of which extends the next two ones.
func ladder() string {
	l := times(60, func(i int) string {
		return fmt.Sprint("model c", i, "; extends c", i+1, "(x = ", i, "); extends c", i+2, "; .")
	})
	l[58] = "model c58; extends c59; ."
	l[59] = "model c59; Real x; ."
	return strings.Join(l, "\n")
}
