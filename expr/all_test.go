package expr

import (
	"math"
	"reflect"
	"slices"
	"strings"
	"testing"

	"isocline/api"
)

// arguments are those of all functions, in one form.
type arguments struct {
	e, f     api.Expr
	s        string
	names    []string
	l        []api.Term
	env, dir []api.Bind
	ranges   []api.Range
	sorts    []api.Sort
	g        int
}

// call is a function with the expressions among its arguments; what it returns is in a list, the error last.
type call struct {
	name  string
	takes func(a arguments) []api.Expr
	of    func(a arguments) []any
}

func calls() []call {
	none := func(a arguments) []api.Expr { return nil }
	one := func(a arguments) []api.Expr { return []api.Expr{a.e} }
	two := func(a arguments) []api.Expr { return []api.Expr{a.e, a.f} }
	list := func(l ...any) []any { return l }
	return []call{
		{"Validate", one, func(a arguments) []any { return list(Validate(a.e)) }},
		{"Parse", none, func(a arguments) []any { return list(Parse(a.s)) }},
		{"Print", one, func(a arguments) []any { return list(Print(a.e)) }},
		{"Names", one, func(a arguments) []any { return list(Names(a.e)) }},
		{"Value", one, func(a arguments) []any { return list(Value(a.e, a.env)) }},
		{"Truth", one, func(a arguments) []any { return list(Truth(a.e, a.env)) }},
		{"Subst", two, func(a arguments) []any { return list(Subst(a.e, a.s, a.f)) }},
		{"Rename", one, func(a arguments) []any { return list(Rename(a.e, a.s)) }},
		{"Terms", one, func(a arguments) []any { return list(Terms(a.e)) }},
		{"Affine", one, func(a arguments) []any { return list(Affine(a.e, a.names)) }},
		{"Same", two, func(a arguments) []any { return list(Same(a.e, a.f)) }},
		{"Of", none, func(a arguments) []any { return list(Of(a.names, a.l)) }},
		{"Derive", one, func(a arguments) []any { return list(Derive(a.e, a.s)) }},
		{"Dual", one, func(a arguments) []any { return list(Dual(a.e, a.env, a.dir)) }},
		{"Bound", one, func(a arguments) []any { return list(Bound(a.e, a.ranges, a.g)) }},
		{"Unit", one, func(a arguments) []any { return list(Unit(a.e, a.sorts)) }},
	}
}

// isZero reports whether x is the zero value, or an empty slice.
func isZero(x any) bool {
	v := reflect.ValueOf(x)
	return v.Kind() == reflect.Slice && v.Len() == 0 || v.IsZero()
}

// hold reports whether results may be: with an error nothing but it, and the place of ErrSyntax; else expressions are valid, and apart from the arguments.
func hold(c call, a arguments, l []any) bool {
	err := l[len(l)-1].(api.Errno)
	for _, x := range l[:len(l)-1] {
		e, is := x.(api.Expr)
		switch {
		case err == api.OK && is && (Validate(e) != api.OK || !apart(append(c.takes(a), e)...)):
			return false
		case err != api.OK && !isZero(x) && !(c.name == "Parse" && err == api.ErrSyntax):
			return false
		}
	}
	return true
}

// badExpressions have an error each.
func badExpressions() []api.Expr {
	x := name("x")
	ring := make([]api.Expr, 1)
	ring[0] = api.Expr{Op: api.ENeg, Kids: ring}
	return []api.Expr{
		{}, {Op: 20}, {Op: api.EName}, {Op: api.EName, Name: strings.Repeat("x", 1000000)}, fixed(q(2, 4)), {Op: api.ENeg, Kids: ring}, {Op: api.EAdd, Kids: make([]api.Expr, 100000)},
		chainOf(13), bushOf(81), node(api.EAdd, x), node(api.ENot, x), {Op: api.EPow, N: q(math.MinInt, math.MinInt), Kids: []api.Expr{x}}, {Op: math.MinInt, Kids: []api.Expr{x}},
	}
}

// TestErrors hands bad expressions to every function, ahead of what would be other errors.
func TestErrors(t *testing.T) {
	bad := badExpressions()
	for _, c := range calls() {
		for i, e := range bad {
			for j, f := range append(bad, name("x")) {
				a := arguments{e: e, f: f, s: "", names: []string{"x", "x"}, env: make([]api.Bind, 65), dir: make([]api.Bind, 65), ranges: make([]api.Range, 65), sorts: make([]api.Sort, 65), g: -1}
				if len(c.takes(a)) == 0 {
					continue
				}
				if l := c.of(a); l[len(l)-1] != Validate(e) || !hold(c, a, l) {
					t.Errorf("%s of bad expressions %d and %d: %v", c.name, i, j, l)
				}
			}
			a := arguments{e: name("x"), f: e, s: "y"}
			if l := c.of(a); len(c.takes(a)) == 2 && (l[len(l)-1] != Validate(e) || !hold(c, a, l)) {
				t.Errorf("%s of the bad second expression %d: %v", c.name, i, l)
			}
		}
	}
}

// samples are expressions of all kinds, good and bad.
func samples() []api.Expr {
	l := append(badExpressions(), name("x"), fixed(q(0, 1)), fixed(q(api.MaxNum, 1)), fixed(q(-999999999961, 999999999989)), bushOf(79), chainOf(12))
	for _, s := range []string{
		"x<y", "1/x", "x/0", "x^-6", "(((m^6)^6)^6)^6", "(((x^6)^6)^6)^6", "(((x+y+z)^6)^6)^6", "(x+y)^6*(x-y)^6", "(1+x)^6/(m^6)^6", "min(x,max(y,abs(-z)))", "if x<y and not z<=1 or 1<0 then der(x) else pre(y)/0",
		"(((x0+x1)+(x2+x3))+((x4+x5)+(x6+x7))+((x8+x9)+(x10+x11))+((x12+x13)+(x14+x15))+((x16+x17)+(x18+x19))+((x20+x21)+(x22+x23)))^6", "x^2-2*x*y+y^2", "der(x)*x+pre(x)^2/4-1",
	} {
		e, _, _ := Parse(s)
		l = append(l, e)
	}
	m := newMaker(16, allOps)
	for range 60 {
		l = append(l, m.any(8))
	}
	m = newMaker(17, normalOps)
	m.numbers = wideNumber
	for range 60 {
		l = append(l, m.any(8))
	}
	return l
}

// TestAllArguments calls every function with all samples: none panics, what is returned is valid, the same call returns the same, and no argument is changed.
func TestAllArguments(t *testing.T) {
	texts := []string{"x", "", "y", "min", "a.b[2]", "x_1", strings.Repeat("n", 60), strings.Repeat("(", 600), "\x00\xff", strings.Repeat("-", 100000), "if if if", "2/3.x^^", "der(x)"}
	envs := [][]api.Bind{nil, bind("x", 1, "y", 2, "z", 3, "m", api.MaxNum), bind("x", 1, "x", 1), make([]api.Bind, 100), {{Name: "x"}}, bind("x", -1, "y", 0, "a.b[2]", 2, "x_1", 7, "der(x)", 3, "pre(x)", 1, "pre(y)", 2)}
	spans := [][]api.Range{nil, ranges("x", 0, 1, "y", -1, 1, "m", -api.MaxNum, api.MaxNum), ranges("x", 1, 0), make([]api.Range, 100), ranges("x", 1, 2, "y", 3, 4, "a.b[2]", 5, 6, "x_1", 7, 8, "der(x)", 9, 10, "pre(x)", 11, 12)}
	units := [][]api.Sort{nil, sorts("x", "m", "y", "m", "z", "m", "m", "m9"), sorts("x", "m", "x", "m"), make([]api.Sort, 100), sorts("x", "1", "y", "1", "a.b[2]", "1", "x_1", "1")}
	names := [][]string{nil, {"x"}, {"x", "y"}, {"x", "x"}, {"der(x)", "x"}, slices.Repeat([]string{""}, 1000)}
	terms := [][]api.Term{nil, {term(1, 1)}, {term(2, 1, 0), term(3, 0, 1)}, {term(1, 0, 0)}, make([]api.Term, 60), make([]api.Term, 1000), {{C: q(1, 1), X: make([]int, 1000)}}}
	ints := []int{1, 10, 0, api.MaxGrid, math.MinInt, math.MaxInt}
	l := samples()
	for i, e := range l {
		for j := range 12 {
			k := i + j
			f := l[(i*7+j*5)%len(l)]
			if small(f) { // it may be e
				f = copied(f)
			}
			a := arguments{e, f, texts[k%len(texts)], names[(k+j)%len(names)], terms[k%len(terms)], envs[k%len(envs)], envs[j%len(envs)], spans[k%len(spans)], units[k%len(units)], ints[(k+j)%len(ints)]}
			for _, c := range calls() {
				before := []any{slices.Clone(a.env), slices.Clone(a.names), slices.Clone(a.ranges), slices.Clone(a.sorts), len(a.l)}
				var kept []api.Expr
				for _, x := range c.takes(a) {
					if small(x) {
						x = copied(x)
					}
					kept = append(kept, x)
				}
				got, again := c.of(a), c.of(a)
				if !hold(c, a, got) || !reflect.DeepEqual(got, again) {
					t.Fatalf("%s of sample %d, %d: %v, then %v", c.name, i, j, got, again)
				}
				for n, x := range c.takes(a) {
					if small(x) && !same(x, kept[n]) {
						t.Fatalf("%s of sample %d, %d changes an argument", c.name, i, j)
					}
				}
				if !reflect.DeepEqual(before, []any{a.env, a.names, a.ranges, a.sorts, len(a.l)}) {
					t.Fatalf("%s of sample %d, %d changes an argument", c.name, i, j)
				}
			}
		}
	}
}

// TestParseAny reads texts of bytes that need not be tokens.
func TestParseAny(t *testing.T) {
	m := newMaker(18, allOps)
	tokens := append(strings.Split("if then else or and not < <= + - * / ^ ( ) , der pre abs min max x y.z[1] 2 2/3 0.5 -3 99999999999999 # \x00 é . [", " "), " ", "  ")
	for range 20000 {
		s := ""
		for range m.r.Intn(30) {
			s += tokens[m.r.Intn(len(tokens))]
			if m.r.Intn(2) == 0 {
				s += " "
			}
		}
		e, at, err := Parse(s)
		good := err == api.OK && at == 0 && Validate(e) == api.OK && apart(e)
		bad := err == api.ErrSyntax && at <= len(s) && (at == len(s) || s[at] != ' ') || (err == api.ErrLarge || err == api.ErrType) && at == 0
		if !good && (!bad || !same(e, api.Expr{})) {
			t.Fatalf("Parse of %q: %v %d %v", s, e, at, err)
		}
	}
}
