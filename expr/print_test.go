package expr

import (
	"strings"
	"testing"

	"isocline/api"
)

func TestPrint(t *testing.T) {
	for s, want := range map[string]string{
		"a*(b+c)-2/3*a ^2":        "a * (b + c) - 2/3 * a^2",
		"a.b[2]":                  "a.b[2]",
		"der ( a.b )":             "der(a.b)",
		"pre(x)":                  "pre(x)",
		"0.25":                    "1/4",
		"-0":                      "0",
		"-2/3":                    "-2/3",
		"2 / 3":                   "2 / 3",
		"-x":                      "-(x)",
		"- 3":                     "-(3)",
		"--3":                     "-(-3)",
		"- -x":                    "-(-(x))",
		"-(x+y)":                  "-(x + y)",
		"-x*y":                    "-(x) * y",
		"x*-y":                    "x * -(y)",
		"-(x*y)":                  "-(x * y)",
		"x--3":                    "x - -3",
		"x- -y":                   "x - -(y)",
		"-3+x":                    "-3 + x",
		"x/-3":                    "x / -3",
		"x/2/3":                   "x / 2/3",
		"x / 2 / 3":               "x / 2 / 3",
		"x+(y+z)":                 "x + (y + z)",
		"(x+y)+z":                 "x + y + z",
		"x-(y-z)":                 "x - (y - z)",
		"(x-y)-z":                 "x - y - z",
		"x*(y*z)":                 "x * (y * z)",
		"(x*y)*z":                 "x * y * z",
		"x/(y*z)":                 "x / (y * z)",
		"(x+y)*z":                 "(x + y) * z",
		"x+(y*z)":                 "x + y * z",
		"(x^2)^3":                 "(x^2)^3",
		"x^-2":                    "x^-2",
		"x^0":                     "x^0",
		"3^2":                     "3^2",
		"-3^2":                    "(-3)^2",
		"0.5^2":                   "(1/2)^2",
		"2/3^2":                   "(2/3)^2",
		"0^2":                     "0^2",
		"(-x)^2":                  "(-(x))^2",
		"-x^2":                    "-(x^2)",
		"(x*y)^2":                 "(x * y)^2",
		"abs(x)^2":                "abs(x)^2",
		"der(x)^2":                "der(x)^2",
		"abs(-3)":                 "abs(-3)",
		"abs((x+y))":              "abs(x + y)",
		"min(x,max(y,-z))":        "min(x, max(y, -(z)))",
		"x<y":                     "x < y",
		"x+1<=y*2":                "x + 1 <= y * 2",
		"not x<y":                 "not x < y",
		"not not x<y":             "not not x < y",
		"not (x<y or y<z)":        "not (x < y or y < z)",
		"not (x<y and y<z)":       "not (x < y and y < z)",
		"(not x<y) and y<z":       "not x < y and y < z",
		"x<y and not y<z":         "x < y and not y < z",
		"x<y and (y<z and z<x)":   "x < y and (y < z and z < x)",
		"(x<y and y<z) and z<x":   "x < y and y < z and z < x",
		"x<y or (y<z or z<x)":     "x < y or (y < z or z < x)",
		"(x<y or y<z) and z<x":    "(x < y or y < z) and z < x",
		"(x<y and y<z) or z<x":    "x < y and y < z or z < x",
		"if x<y then x else y":    "if x < y then x else y",
		"if x<y then x+1 else -y": "if x < y then x + 1 else -(y)",
		"if x<y or y<z then 1 else if y<z then 2 else 3":           "if x < y or y < z then 1 else (if y < z then 2 else 3)",
		"if x<y then if y<z then 2 else 3 else 1":                  "if x < y then (if y < z then 2 else 3) else 1",
		"1+(if x<y then 2 else 3)":                                 "1 + (if x < y then 2 else 3)",
		"-(if x<y then 2 else 3)":                                  "-(if x < y then 2 else 3)",
		"(if x<y then 2 else 3)^2":                                 "(if x < y then 2 else 3)^2",
		"(if x<y then 2 else 3)<z":                                 "(if x < y then 2 else 3) < z",
		"abs(if x<y then 2 else 3)":                                "abs((if x < y then 2 else 3))",
		"max(if x<y then 2 else 3,z)":                              "max((if x < y then 2 else 3), z)",
		"if (if x<y then 2 else 3)<z and x<y then 1 else abs(x+y)": "if (if x < y then 2 else 3) < z and x < y then 1 else abs(x + y)",
	} {
		got, err := Print(parse(t, s))
		if got != want || err != api.OK {
			t.Errorf("Print of %q: %q %v, not %q", s, got, err, want)
		}
	}
	for _, e := range []struct {
		e    api.Expr
		want api.Errno
	}{{api.Expr{}, api.ErrArg}, {chainOf(13), api.ErrLarge}, {node(api.ENot, name("x")), api.ErrType}, {fixed(q(2, 4)), api.ErrArg}} {
		if s, err := Print(e.e); s != "" || err != e.want {
			t.Errorf("Print of %v: %q %v", e.e, s, err)
		}
	}
}

// TestPrintLong prints what is longer than a text that is read.
func TestPrintLong(t *testing.T) {
	x := strings.Repeat("n", api.MaxName)
	e := bushOf(79)
	e = become(e, func(k api.Expr) api.Expr {
		if k.Op == api.EName {
			k.Name = x
		}
		return k
	})
	if s, err := Print(e); err != api.OK || strings.Count(s, x) != 40 {
		t.Errorf("Print: %d bytes, %v", len(s), err)
	}
}

// TestPrintParsed reads what is printed, and again without each pair of parentheses that need not always be there.
func TestPrintParsed(t *testing.T) {
	m := newMaker(6, allOps)
	left := 0
	for range 20000 {
		e := m.any(7)
		s, err := Print(e)
		if err != api.OK {
			t.Fatalf("Print of %v: %v", e, err)
		}
		if len(s) > api.MaxText {
			continue
		}
		if f := parse(t, s); !same(e, f) {
			t.Fatalf("Parse of %q, which is Print of %v: %v", s, e, f)
		}
		for i := range len(s) {
			if s[i] != '(' || i > 0 && (isLetter(s[i-1]) || s[i-1] == '-') || strings.HasPrefix(s[i:], "(if ") {
				continue
			}
			end := closing(s, i)
			if inner := s[i+1 : end]; strings.HasPrefix(s[end:], ")^") && strings.Trim(inner, "-/0123456789") == "" {
				continue
			}
			left++
			without := s[:i] + s[i+1:end] + s[end+1:]
			if f, _, err := Parse(without); err == api.OK && same(e, f) {
				t.Fatalf("Print of %v: %q, but %q does", e, s, without)
			}
		}
	}
	if left < 5000 {
		t.Errorf("only %d pairs of parentheses", left)
	}
}

// closing is where the parenthesis that opens at i ends.
func closing(s string, i int) int {
	open := 0
	for ; ; i++ {
		switch s[i] {
		case '(':
			open++
		case ')':
			open--
		}
		if open == 0 {
			return i
		}
	}
}
