package scope

import (
	"strings"
	"testing"

	"isocline/api"
)

// nested are classes within each other.
const nested = "port pin; Real v in V; flow Real i in A; .\n" +
	"partial two; pin p; pin n; Real u; .\n" +
	"model res; extends two; parameter Real r = 10 in Ohm; .\n" +
	"model warm; extends res(r = 20); Real heat; .\n" +
	"model pair; replaceable res a(r = 1); replaceable res b(p.v = 2); res c[2]; .\n" +
	"model top; extends pair(a is warm, a.r = 3, b.p.i = 4, c.u = 5); pair d(a is warm, a.heat = 6, b.r = 7); .\n" +
	"model e.top; extends pair(a is hot); .\n" +
	"model e.hot; extends warm(heat = 8); ."

func TestMember(t *testing.T) {
	l := lib(nested)
	for path, want := range map[string]string{
		"a":        "replaceable warm a(r = 3)",
		"a.r":      "parameter Real r = 3 in Ohm",
		"a.heat":   "Real heat",
		"a.p":      "pin p",
		"a.p.v":    "Real v in V",
		"b":        "replaceable res b(p.v = 2, p.i = 4)",
		"b.r":      "parameter Real r = 10 in Ohm",
		"b.p":      "pin p(v = 2, i = 4)",
		"b.p.v":    "Real v = 2 in V",
		"b.p.i":    "flow Real i = 4 in A",
		"b.n.i":    "flow Real i in A",
		"c":        "res c[2](u = 5)",
		"c.u":      "Real u = 5",
		"d":        "pair d(a is warm, a.heat = 6, b.r = 7)",
		"d.a":      "replaceable warm a(r = 1, heat = 6)",
		"d.a.r":    "parameter Real r = 1 in Ohm",
		"d.a.heat": "Real heat = 6",
		"d.b":      "replaceable res b(p.v = 2, r = 7)",
		"d.b.r":    "parameter Real r = 7 in Ohm",
		"d.b.p":    "pin p(v = 2)",
		"d.c":      "res c[2]",
	} {
		k, err := Member(l, "top", path)
		if err != api.OK || part(k) != want {
			t.Errorf("Member %s: %v %d, not %s", path, k, err, want)
		}
	}
	for path, want := range map[string]string{"a": "replaceable e.hot a(r = 1)", "a.heat": "Real heat = 8", "a.r": "parameter Real r = 1 in Ohm"} {
		k, err := Member(l, "e.top", path)
		if err != api.OK || part(k) != want {
			t.Errorf("Member %s of e.top: %v %d, not %s", path, k, err, want)
		}
	}
}

func TestMemberErrors(t *testing.T) {
	l := lib(nested + "\nmodel loop; extends loop; .\nmodel self; self x(y = 1); Real y; .\nmodel mix; loop x; two y(q = 1); pin z(v.w = 1); .\nmodel late; pin z; extra y; .\nmodel holds; late l; .")
	long := strings.Repeat("x.", 100)
	for _, x := range []struct {
		name, path string
		err        api.Errno
	}{
		{"nothing", "a", api.ErrNone}, {"", "a", api.ErrNone}, {"nothing", "", api.ErrNone}, {"nothing", "a[1]", api.ErrNone},
		{"top", "", api.ErrArg}, {"top", ".", api.ErrArg}, {"top", "a.", api.ErrArg}, {"top", ".a", api.ErrArg}, {"top", "a..r", api.ErrArg},
		{"top", "c[1]", api.ErrArg}, {"top", "c[1].u", api.ErrArg}, {"top", "a r", api.ErrArg}, {"top", "time", api.ErrArg}, {"top", "a.model", api.ErrArg},
		{"top", "Real", api.ErrArg}, {"top", "seventeen_bytes_17", api.ErrArg}, {"top", "a.1", api.ErrArg}, {"loop", "a.1", api.ErrArg},
		{"top", "x", api.ErrNone}, {"top", "a.x", api.ErrNone}, {"top", "a.p.x", api.ErrNone}, {"top", "a.r.x", api.ErrNone}, {"top", "x.a", api.ErrNone}, {"top", "sixteen_bytes_16", api.ErrNone},
		{"loop", "a", api.ErrLoop}, {"mix", "x", api.OK}, {"mix", "x.y", api.ErrLoop}, {"mix", "y.q", api.ErrNone}, {"mix", "y", api.OK}, {"mix", "z.v", api.ErrType}, {"mix", "z", api.OK}, {"mix", "z.q", api.ErrType},
		{"late", "z", api.ErrNone}, {"holds", "l", api.OK}, {"holds", "l.z", api.ErrNone},
		{"self", long + "y", api.OK}, {"self", long + "z", api.ErrNone}, {"self", long + "y.x", api.ErrNone}, {"self", long + "x", api.OK},
	} {
		k, err := Member(l, x.name, x.path)
		if err != x.err || err != api.OK && !same(k, api.Comp{}) {
			t.Errorf("Member of %s, %s: %v %d, not %d", x.name, x.path, k, err, x.err)
		}
	}
	if k, err := Member(l, "self", long+"y"); err != api.OK || part(k) != "Real y = 1" {
		t.Errorf("%v %d", k, err)
	}
	if k, err := Member(l, "self", "y"); err != api.OK || part(k) != "Real y" {
		t.Errorf("%v %d", k, err)
	}
}
