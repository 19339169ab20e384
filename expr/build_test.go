package expr

import (
	"fmt"
	"math"
	"slices"
	"strings"
	"testing"

	"isocline/api"
)

// term is a term of whole numbers.
func term(c int, x ...int) api.Term { return api.Term{C: q(c, 1), X: x} }

func TestOf(t *testing.T) {
	for _, c := range []struct {
		names string
		l     []api.Term
	}{
		{"", nil},
		{"", []api.Term{term(7)}},
		{"", []api.Term{term(-7)}},
		{"x", []api.Term{term(1, 1)}},
		{"x", []api.Term{term(-1, 1)}},
		{"x", []api.Term{term(-2, 1)}},
		{"x", []api.Term{{C: q(-2, 3), X: []int{12}}, term(1, 0)}},
		{"x", []api.Term{term(-1, 2), term(-1, 1), term(-1, 0)}},
		{"x", []api.Term{term(-1, 2), term(-1, 1)}},
		{"x", []api.Term{term(-1, 2), term(1, 1)}},
		{"x", []api.Term{term(1, 2), term(-1, 1), term(-5, 0)}},
		{"der(x) pre(x) x", []api.Term{term(2, 1, 1, 1), term(-1, 0, 0, 1)}},
		{"B a.b a[1] b", []api.Term{term(api.MaxNum, 3, 3, 3, 3), term(-api.MaxNum, 0, 0, 0, 0)}},
		{"a b c d e f g h i j k l", []api.Term{term(3, 1, 1, 1, 1, 1, 1, 1, 1, 1, 1, 1, 1)}},
	} {
		names := strings.Fields(c.names)
		e, err := Of(names, c.l)
		if err != api.OK || Validate(e) != api.OK || !apart(e) {
			t.Fatalf("Of of %s: %v %v", shown(names, c.l), e, err)
		}
		back, l, err := Terms(e)
		if shown(back, l) != shown(names, c.l) || err != api.OK {
			t.Errorf("Terms of Of of %s: %s %v", shown(names, c.l), shown(back, l), err)
		}
	}
	for n := range api.MaxDeg + 1 {
		l := []api.Term{term(5, n)}
		names := []string{"x"}
		if n == 0 {
			names, l = nil, []api.Term{term(5)}
		}
		e, err := Of(names, l)
		if back, m, e2 := Terms(e); err != api.OK || e2 != api.OK || shown(back, m) != shown(names, l) {
			t.Errorf("Of of x^%d: %v %v", n, e, err)
		}
	}
}

func TestOfErrors(t *testing.T) {
	x, xy := []string{"x"}, []string{"x", "y"}
	one := []api.Term{term(1, 1)}
	long := strings.Repeat("n", api.MaxName)
	var many, wide []api.Term
	for i := range 61 {
		many = append(many, term(1, 60-i))
		wide = append(wide, term(1, 1, 0))
	}
	for _, c := range []struct {
		what  string
		names []string
		l     []api.Term
		want  api.Errno
	}{
		{"one name", x, one, api.OK},
		{"the longest name", []string{long}, one, api.OK},
		{"der of the longest name", []string{"der(" + long + ")"}, one, api.OK},
		{"too many terms", x, many, api.ErrLarge},
		{"too many terms of another length", x, wide, api.ErrLarge},
		{"60 terms of a degree that is too high", x, many[:60], api.ErrArg},
		{"a degree that is too high", x, []api.Term{term(1, 13)}, api.ErrArg},
		{"a sum of exponents that is too high", xy, []api.Term{term(1, 6, 7)}, api.ErrArg},
		{"exponents that are far too high", xy, []api.Term{term(1, math.MaxInt, math.MaxInt)}, api.ErrArg},
		{"exponents below 0", xy, []api.Term{term(1, 2, -1), term(1, 0, 1)}, api.ErrArg},
		{"exponents far below 0", xy, []api.Term{term(1, 1, math.MinInt), term(1, 0, 1)}, api.ErrArg},
		{"a name that stands nowhere", xy, []api.Term{term(1, 1, 0)}, api.ErrArg},
		{"a name without terms", x, nil, api.ErrArg},
		{"a name and a constant", x, []api.Term{term(1, 0)}, api.ErrArg},
		{"too few exponents", xy, []api.Term{term(1, 1, 1), term(1, 1)}, api.ErrArg},
		{"too many exponents", x, []api.Term{term(1, 1, 0)}, api.ErrArg},
		{"ascending terms", x, []api.Term{term(1, 1), term(1, 2)}, api.ErrArg},
		{"equal terms", x, []api.Term{term(1, 1), term(1, 1)}, api.ErrArg},
		{"a coefficient 0", x, []api.Term{term(1, 2), term(0, 1)}, api.ErrArg},
		{"a coefficient that is no number", x, []api.Term{{C: q(2, 4), X: []int{1}}}, api.ErrArg},
		{"no coefficient", x, []api.Term{{X: []int{1}}}, api.ErrArg},
		{"a coefficient that is too large", x, []api.Term{term(api.MaxNum+1, 1)}, api.ErrArg},
		{"descending names", []string{"y", "x"}, []api.Term{term(1, 1, 1)}, api.ErrArg},
		{"equal names", []string{"x", "x"}, []api.Term{term(1, 1, 1)}, api.ErrArg},
		{"names that are too many to stand", slices.Repeat(x, 10000), one, api.ErrArg},
		{"an empty name", []string{""}, one, api.ErrArg},
		{"a word", []string{"min"}, one, api.ErrArg},
		{"a name that is too long", []string{long + "n"}, one, api.ErrArg},
		{"der of what is too long", []string{"der(" + long + "n)"}, one, api.ErrArg},
		{"der of a word", []string{"der(if)"}, one, api.ErrArg},
		{"der of nothing", []string{"der()"}, one, api.ErrArg},
		{"der of der", []string{"der(der(x))"}, one, api.ErrArg},
		{"der with a blank", []string{"der( x)"}, one, api.ErrArg},
		{"der that is not closed", []string{"der(x"}, one, api.ErrArg},
		{"abs", []string{"abs(x)"}, one, api.ErrArg},
		{"a number", []string{"2"}, one, api.ErrArg},
	} {
		e, err := Of(c.names, c.l)
		if err != c.want || err != api.OK && !same(e, api.Expr{}) {
			t.Errorf("Of with %s: %v %v, not %v", c.what, e, err, c.want)
		}
	}
	// 41 names need 81 nodes, however they are put together.
	var names []string
	var l []api.Term
	for i := range 41 {
		names = append(names, fmt.Sprint("n", 10+i))
		x := make([]int, 41)
		x[i] = 1
		l = append(l, term(1, x...))
	}
	if e, err := Of(names, l); err != api.ErrLarge || !same(e, api.Expr{}) {
		t.Errorf("Of with 41 names: %v %v", e, err)
	}
	for i := range l {
		l[i].X = l[i].X[:40]
	}
	if e, err := Of(names[:40], l[:40]); err != api.OK || Validate(e) != api.OK {
		t.Errorf("Of with 40 names: %v", err)
	}
}

// TestOfShort makes expressions of what is too long written out.
func TestOfShort(t *testing.T) {
	for _, s := range []string{
		"x*y*z*((a+b+c+d+e+f)+(g+h+i+j+k+l))", "(a+b+c+d+e)*(f+g+h+i+j)*x+x^6-y",
		"(1+x+y+z)^3", "(1+x+y)^4", "(x+y+z)^4", "(1+x)^6*(1+x)^6", "(2+x)^6*(1+x)^5-x", "x^6*(a+b+c+d+e)*(f+g+h+i+j)", "(1+x)^6*(2+y)",
	} {
		e := parse(t, s)
		names, l, err := Terms(e)
		if err != api.OK {
			t.Fatalf("Terms of %s: %v", s, err)
		}
		f, err := Of(names, l)
		if is, e2 := Same(e, f); !is || err != api.OK || e2 != api.OK {
			t.Errorf("Of of the %d terms of %s: %v %v", len(l), s, err, e2)
		}
	}
}

// TestOfTerms makes expressions of the terms of others.
func TestOfTerms(t *testing.T) {
	m := newMaker(11, normalOps)
	met := map[api.Errno]int{}
	for range 20000 {
		e := m.any(6)
		names, l, err := Terms(e)
		if err != api.OK {
			continue
		}
		f, err := Of(names, l)
		met[err]++
		if err != api.OK {
			if len(l) < 12 {
				t.Fatalf("Of of %s: %v", shown(names, l), err)
			}
			continue
		}
		back, k, err := Terms(f)
		if shown(back, k) != shown(names, l) || err != api.OK || Validate(f) != api.OK || !apart(f) {
			t.Fatalf("Of of %s: %v, with %s", shown(names, l), f, shown(back, k))
		}
	}
	if met[api.OK] < 5000 || len(met) > 2 {
		t.Error(met)
	}
}
