package scope

import (
	"fmt"
	"testing"

	"isocline/api"
)

func TestMerge(t *testing.T) {
	for _, x := range []struct {
		outer, inner, want string
	}{
		{"", "", ""},
		{"x = 1", "", "x = 1"},
		{"", "x = 1, y = 2", "x = 1, y = 2"},
		{"x = 1", "x = 2", "x = 1"},
		{"x = 1", "y = 2", "y = 2, x = 1"},
		{"x is t", "x = 2", "x is t"},
		{"x = 2 + z", "x is t", "x = 2 + z"},
		{"z = 7, y = 8, x = 9", "x = 1, w = 2, y = 3", "x = 9, w = 2, y = 8, z = 7"},
		{"d = 1, c = 2, b = 3", "a = 4, b = 5", "a = 4, b = 3, d = 1, c = 2"},
		{"a.b = 1", "a is t", "a is t, a.b = 1"},
		{"a is t", "a.b = 1", "a.b = 1, a is t"},
		{"a.b = 1, a = 2", "a.b.c = 3, a.b = 4", "a.b.c = 3, a.b = 1, a = 2"},
		{"a = 1, b = 2, c = 3, d = 4, e = 5, f = 6, g = 7, h = 8", "h = 1, g = 2, f = 3, e = 4, d = 5, c = 6, b = 7, a = 8", "h = 8, g = 7, f = 6, e = 5, d = 4, c = 3, b = 2, a = 1"},
		{"e = 1, f = 2, g = 3, h = 4", "a = 5, b = 6, c = 7, d = 8", "a = 5, b = 6, c = 7, d = 8, e = 1, f = 2, g = 3, h = 4"},
	} {
		if r, err := Merge(mods(x.outer), mods(x.inner)); !same(r, mods(x.want)) || err != api.OK {
			t.Errorf("Merge of %s over %s: %v %d, not %s", x.outer, x.inner, r, err, x.want)
		}
	}
}

// paths are modifiers with n Paths, which have nothing else.
func paths(from, n int) []api.Mod {
	return times(n, func(i int) api.Mod { return api.Mod{Path: fmt.Sprint("x", from+i)} })
}

func TestMergeErrors(t *testing.T) {
	bad := func(path string) []api.Mod { return []api.Mod{{Path: path, Value: ex("1")}} }
	twice := mods("a = 1, b = 2")
	twice[1].Path = "a"
	for i, x := range []struct {
		outer, inner []api.Mod
		err          api.Errno
	}{
		{paths(0, 8), nil, api.OK},
		{paths(0, 8), paths(0, 8), api.OK},
		{paths(0, 8), paths(1, 8), api.ErrLarge},
		{paths(0, 4), paths(4, 4), api.OK},
		{paths(0, 4), paths(4, 5), api.ErrLarge},
		{paths(0, 9), nil, api.ErrLarge},
		{nil, paths(0, 9), api.ErrLarge},
		{bad("1"), paths(0, 9), api.ErrLarge},
		{twice, paths(0, 9), api.ErrLarge},
		{bad(""), nil, api.ErrArg},
		{nil, bad("a."), api.ErrArg},
		{twice, bad("a..b"), api.ErrArg},
		{append(paths(0, 7), bad("Real")...), paths(8, 4), api.ErrArg},
		{nil, bad("a[1]"), api.ErrArg},
		{nil, bad("seventeen_bytes_17"), api.ErrArg},
		{nil, bad("a.time"), api.ErrArg},
		{nil, bad("sixteen_bytes_16.sixteen_bytes_16.sixteen_bytes_16.sixteen_bytes_16"), api.OK},
		{twice, nil, api.ErrTwice},
		{nil, twice, api.ErrTwice},
		{append(paths(0, 6), twice...), paths(9, 8), api.ErrTwice},
	} {
		if r, err := Merge(x.outer, x.inner); err != x.err || err != api.OK && len(r) != 0 {
			t.Errorf("Merge %d: %v %d, not %d", i, r, err, x.err)
		}
	}
}

// TestMergeAny merges modifiers whose Types and Values are nothing at all.
func TestMergeAny(t *testing.T) {
	wild := api.Expr{Op: -7, Name: "\xff", N: api.Rat{N: 1}, Kids: []api.Expr{{Op: 99, Kids: []api.Expr{{}}}}}
	a := []api.Mod{{Path: "x", Type: "Real", Value: wild}, {Path: "y.z"}}
	b := []api.Mod{{Path: "y.z", Type: "\x00", Value: wild}, {Path: "v", Type: "1", Value: wild}}
	r, err := Merge(a, b)
	if want := []api.Mod{a[1], b[1], a[0]}; !same(r, want) || err != api.OK {
		t.Errorf("%v %d, not %v", r, err, want)
	}
	if !apart(r) || share(r, a) || share(r, b) {
		t.Error("shared memory")
	}
}
