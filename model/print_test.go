package model

import (
	"fmt"
	"strings"
	"testing"

	"isocline/api"
)

func TestPrint(t *testing.T) {
	const pinText = "port pin\nReal v in V\nflow Real i in A\nend pin\n"
	const resistorText = "model res\npin p\npin n\nparameter Real r = 10 in Ohm\nequation p.v - n.v = r * p.i\nequation p.i + n.i = 0\nend res\n"
	for _, x := range []struct {
		l []api.Class
		s string
	}{
		{nil, ""},
		{[]api.Class{{Name: "a"}}, "model a\nend a\n"},
		{[]api.Class{pin()}, pinText},
		{[]api.Class{pin(), resistor()}, pinText + "\n" + resistorText},
		{[]api.Class{resistor(), pin(), full()}, resistorText + "\n" + pinText + "\n" + fullText},
		{[]api.Class{{Name: "a", Kind: api.KPartial, Comps: []api.Comp{{Name: "r1", Type: "res", Mods: []api.Mod{value("r", "5")}}}}}, "partial a\nres r1(r = 5)\nend a\n"},
	} {
		if s, err := Print(x.l); s != x.s || err != api.OK {
			t.Errorf("Print: %v\n%s\nnot\n%s", err, s, x.s)
		}
	}
}

// TestPrintComponents has each word of a component alone, and all of those that may stand together.
func TestPrintComponents(t *testing.T) {
	for _, x := range []struct {
		k api.Comp
		s string
	}{
		{api.Comp{Type: "Real"}, "Real x"},
		{api.Comp{Type: "a.b"}, "a.b x"},
		{api.Comp{Type: "Real", Flow: true}, "flow Real x"},
		{api.Comp{Type: "Real", Var: api.VParam}, "parameter Real x"},
		{api.Comp{Type: "Real", Var: api.VDisc}, "discrete Real x"},
		{api.Comp{Type: "Real", Size: 1}, "Real x[1]"},
		{api.Comp{Type: "Real", Size: 8}, "Real x[8]"},
		{api.Comp{Type: "Real", Scope: api.OInner}, "inner Real x"},
		{api.Comp{Type: "Real", Scope: api.OOuter}, "outer Real x"},
		{api.Comp{Type: "t", Replace: true}, "replaceable t x"},
		{api.Comp{Type: "Real", Cond: ex("a<b")}, "Real x when a < b"},
		{api.Comp{Type: "Real", Value: ex("a*(b+c)")}, "Real x = a * (b + c)"},
		{api.Comp{Type: "Real", Unit: "m/s"}, "Real x in m/s"},
		{api.Comp{Type: "t", Mods: []api.Mod{value("a.b", "1"), typed("a", "c.d")}}, "t x(a.b = 1, a is c.d)"},
		{api.Comp{Type: "Real", Scope: api.OInner, Flow: true, Var: api.VParam, Size: 2, Value: ex("1"), Unit: "V", Cond: ex("a<b")}, "inner flow parameter Real x[2] = 1 in V when a < b"},
		{api.Comp{Type: "t", Scope: api.OOuter, Replace: true, Size: 3, Mods: []api.Mod{value("a", "1")}, Cond: ex("a<b")}, "outer replaceable t x[3](a = 1) when a < b"},
	} {
		x.k.Name = "x"
		want := "model m\n" + x.s + "\nend m\n"
		if s, err := Print([]api.Class{{Name: "m", Comps: []api.Comp{x.k}}}); s != want || err != api.OK {
			t.Errorf("Print: %v\n%s\nnot\n%s", err, s, want)
		}
	}
}

// longExpression has a text of n bytes, n from 6 to 660.
func longExpression(n int) api.Expr {
	var sum api.Expr
	for left := n; left > 0; {
		size := min(left, 60)
		if left > 60 && left < 66 {
			size = 50 // so that there is room for an operator and a name behind
		}
		a := name(strings.Repeat("n", size))
		left -= size
		if sum.Op == 0 {
			sum = a
		} else {
			sum = api.Expr{Op: api.EAdd, Kids: []api.Expr{sum, a}}
		}
		if left > 0 {
			left -= len(" + ")
		}
	}
	return sum
}

// TestPrintLong has texts at the limits.
func TestPrintLong(t *testing.T) {
	condition := func(n int) api.Expr {
		return api.Expr{Op: api.ELess, Kids: []api.Expr{longExpression(n - len(" < 1")), ex("1")}}
	}
	mods := func(e api.Expr) []api.Mod { return []api.Mod{{Path: "p", Value: e}} }
	for i, put := range []func(c *api.Class, n int){
		func(c *api.Class, n int) { c.Bases = []api.Base{{Name: "b", Mods: mods(longExpression(n))}} },
		func(c *api.Class, n int) {
			c.Comps = []api.Comp{{Name: "c", Type: "t", Mods: mods(longExpression(n))}}
		},
		func(c *api.Class, n int) {
			c.Comps = []api.Comp{{Name: "c", Type: "Real", Value: longExpression(n)}}
		},
		func(c *api.Class, n int) { c.Comps = []api.Comp{{Name: "c", Type: "t", Cond: condition(n)}} },
		func(c *api.Class, n int) { c.Eqs = []api.Eq{{L: longExpression(n), R: ex("1")}} },
		func(c *api.Class, n int) { c.Eqs = []api.Eq{{L: ex("1"), R: longExpression(n)}} },
		func(c *api.Class, n int) { c.Whens = []api.When{{C: condition(n)}} },
		func(c *api.Class, n int) {
			c.Whens = []api.When{{C: ex("1 < 2"), Sets: []api.Set{{Name: "x", E: longExpression(n)}}}}
		},
	} {
		for n, want := range map[int]api.Errno{600: api.OK, 601: api.ErrLarge} {
			c := api.Class{Name: "a"}
			put(&c, n)
			s, err := Print([]api.Class{pin(), c})
			if err != want || (s == "") != (want != api.OK) {
				t.Errorf("expression %d of %d bytes: %v", i, n, err)
			}
			if want == api.OK {
				if l, at, err := Parse(s); err != api.OK || at != 0 || !same(l, []api.Class{pin(), c}) {
					t.Errorf("expression %d of %d bytes, read: %d %v", i, n, at, err)
				}
			}
		}
	}
}

// TestPrintSource has texts of just as many bytes as they may have, and of one more.
func TestPrintSource(t *testing.T) {
	l := times(13, func(i int) api.Class {
		return api.Class{Name: fmt.Sprint("c", 10+i), Eqs: []api.Eq{{L: longExpression(560), R: ex("0")}}}
	})
	s, err := Print(l)
	if err != api.OK {
		t.Fatal(err)
	}
	l = append(l, api.Class{Name: "x", Eqs: []api.Eq{{}}})
	for more, want := range map[int]api.Errno{0: api.OK, 1: api.ErrLarge, 100: api.ErrLarge} {
		rest := api.MaxSource + more - len(s) - len("\nmodel x\nequation  = 0\nend x\n")
		l[13].Eqs[0] = api.Eq{L: longExpression(rest), R: ex("0")}
		got, err := Print(l)
		if err != want || want == api.OK && len(got) != api.MaxSource || want != api.OK && got != "" {
			t.Errorf("%d more: %d bytes %v", more, len(got), err)
		}
		if want == api.OK {
			if back, at, err := Parse(got); err != api.OK || at != 0 || !same(back, l) {
				t.Errorf("read: %d %v", at, err)
			}
		}
	}
}
