package scope

import (
	"strings"
	"testing"

	"isocline/api"
)

func TestLookup(t *testing.T) {
	e := lib("port pin; .\nport e.pin; .\nmodel e.r; .\nmodel a.b.c; .\nmodel a.b.d; .\nmodel a.d; .\nmodel d; .\nmodel a.b.c.x.y; .\nmodel ab.z; .\nmodel a; .")
	for _, x := range []struct {
		from, name string
		want       int
	}{
		{"e.r", "pin", 1}, {"pin", "pin", 0}, {"a.b.c", "pin", 0}, {"e.pin", "pin", 1}, {"e.r", "e.pin", 1}, {"e.r", "r", 2},
		{"a.b.c", "d", 4}, {"a.b.d", "d", 4}, {"a.d", "d", 5}, {"d", "d", 6}, {"a", "d", 5}, {"a", "b.d", 4}, {"a.b.c", "a.d", 5},
		{"a.b.c", "x.y", 7}, {"a.b.c.x.y", "x.y", 7}, {"a", "b.c.x.y", 7}, {"a.b.c.x.y", "d", 4}, {"a.b.c.x.y", "a", 9}, {"a", "a", 9},
	} {
		if at, err := Lookup(e, x.from, x.name); at != x.want || err != api.OK {
			t.Errorf("Lookup of %s in %s: %d %d, not %d", x.name, x.from, at, err, x.want)
		}
	}
	for _, x := range [][2]string{
		{"pin", "r"}, {"e.r", "x"}, {"a", "x.y"}, {"a.d", "x.y"}, {"a", "z"}, {"a", ""}, {"a.b.c", ""}, {"a", "Real"}, {"a", "."}, {"a", ".d"}, {"a", "d."},
		{"", "a"}, {"x", "a"}, {"a.b", "a"}, {"a.", "a"}, {"Real", "a"}, {"a", strings.Repeat("a.", 100) + "a"}, {"\x00", "\xff"},
	} {
		if at, err := Lookup(e, x[0], x[1]); at != 0 || err != api.ErrNone {
			t.Errorf("Lookup of %q in %q: %d %d", x[1], x[0], at, err)
		}
	}
}
