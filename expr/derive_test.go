package expr

import (
	"slices"
	"strings"
	"testing"

	"isocline/api"
	"isocline/rat"
)

// slope is the derivative of a normal form by a name: what Terms of Derive has to return.
func slope(names []string, l []api.Term, name string) ([]string, []api.Term, api.Errno) {
	k := slices.Index(names, name)
	if k < 0 {
		return nil, nil, api.OK
	}
	stand := make([]bool, len(names))
	var d []api.Term
	for _, t := range l {
		n := t.X[k]
		if n == 0 {
			continue
		}
		c, err := rat.Mul(t.C, q(n, 1))
		if err != api.OK {
			return nil, nil, err
		}
		x := slices.Clone(t.X)
		x[k]--
		for i := range x {
			stand[i] = stand[i] || x[i] > 0
		}
		d = append(d, api.Term{C: c, X: x})
	}
	var kept []string
	for i := range names {
		if stand[i] {
			kept = append(kept, names[i])
		}
	}
	for j, t := range d {
		var x []int
		for i := range names {
			if stand[i] {
				x = append(x, t.X[i])
			}
		}
		d[j].X = x
	}
	return kept, d, api.OK
}

func TestDerive(t *testing.T) {
	for _, c := range [][3]string{
		{"x", "x", "1"}, {"x", "y", "0"}, {"x", "", "0"}, {"5", "x", "0"}, {"der(x)", "x", "0"}, {"pre(x)", "x", "0"}, {"der(x)", "der(x)", "0"}, {"x*der(x)*pre(x)", "x", "der(x)*pre(x)"},
		{"-x", "x", "0-1"}, {"x+y", "x", "1"}, {"x-y", "y", "-1"}, {"y-x*x", "x", "-2*x"}, {"x*y", "x", "y"}, {"x^3", "x", "3*x^2"}, {"x^0", "x", "0"}, {"x^1", "x", "1"}, {"x^2", "x", "2*x"},
		{"(2*x+1)^3", "x", "6*(2*x+1)^2"}, {"(x^6)^2", "x", "12*x^6*x^5"}, {"x/4", "x", "0.25"}, {"x*x/(1+2)", "x", "2*x/3"}, {"x/(y-y+2)", "x", "1/2"}, {"x/(x-x+2)", "x", "1/2"},
		{"x-x", "x", "0"}, {"x*0", "x", "0"}, {"(x+y)^2-x*x", "x", "2*y"}, {"x.a*x", "x", "x.a"}, {"x*y*z*u*v", "z", "x*y*u*v"}, {"(x+y)*(x-y)", "x", "2*x"},
	} {
		e := parse(t, c[0])
		d, err := Derive(e, c[1])
		if is, e2 := Same(d, parse(t, c[2])); err != api.OK || !is || e2 != api.OK || !apart(d, e) {
			t.Errorf("Derive of %s by %s: %v %v", c[0], c[1], d, err)
		}
	}
	for s, want := range map[string]api.Errno{
		"abs(x)": api.ErrType, "min(x,y)": api.ErrType, "max(x,y)": api.ErrType, "if x<y then x else y": api.ErrType, "x<y": api.ErrType, "x^-1": api.ErrType, "abs(2)": api.ErrType,
		"1/x": api.ErrType, "y/(x-y)": api.ErrType, "x/0": api.ErrFit, "y/(x-x)": api.ErrFit, "x/0+abs(y)": api.ErrType, "1/(1/0)": api.ErrFit, "x/0+1/y": api.ErrType, "1/y+x/0": api.ErrType,
		"(x^6)^3/0": api.ErrFit, "x/((y^6)^3)": api.ErrLarge,
	} {
		for _, by := range []string{"x", "y", "none"} {
			if d, err := Derive(parse(t, s), by); err != want || !same(d, api.Expr{}) {
				t.Errorf("Derive of %s by %s: %v %v, not %v", s, by, d, err, want)
			}
		}
	}
	for _, e := range []api.Expr{{}, chainOf(13), node(api.ENot, name("x"))} {
		if d, err := Derive(e, "x"); err != Validate(e) || !same(d, api.Expr{}) {
			t.Errorf("Derive of %v: %v %v", e, d, err)
		}
	}
}

// TestDeriveLong derives what is at the limits: the rules make it deeper, or longer, or the terms are too many.
func TestDeriveLong(t *testing.T) {
	deep := strings.Repeat("-(", 10) + "x^3" + strings.Repeat(")", 10)
	if e := parse(t, deep); Validate(node(api.ENeg, e)) != api.ErrLarge {
		t.Fatal("not deep enough")
	}
	for _, c := range [][2]string{
		{deep, "3*x^2"}, {strings.Repeat("-(", 10) + "x*x" + strings.Repeat(")", 10), "2*x"},
		{"x*x*x*x*x*x*x*x*x*x*x*x", "12*x^6*x^5"}, {"(((((x+1)*x+1)*x+1)*x+1)*x+1)*x*x", "7*x^6+6*x^5+5*x^4+4*x^3+3*x^2+2*x"},
		{"(x+a)*(x+b)*(x+c)*(x+d)", "(x+b)*(x+c)*(x+d)+(x+a)*(x+c)*(x+d)+(x+a)*(x+b)*(x+d)+(x+a)*(x+b)*(x+c)"},
	} {
		d, err := Derive(parse(t, c[0]), "x")
		if is, e2 := Same(d, parse(t, c[1])); err != api.OK || !is || e2 != api.OK {
			t.Errorf("Derive of %s: %v %v", c[0], d, err)
		}
	}
	// The form of these is too long, but their rules do.
	env := bind("a", 1, "b", 2, "c", -3, "d", 1, "f", 2, "g", -1, "x", 1)
	for _, s := range []string{"(a+b+c+d+f+x)^6", "(x^6)^6", "(a+b+c+d+f+g+x)^4/2", "1000000000000*x^2"} {
		e := parse(t, s)
		d, err := Derive(e, "x")
		if err != api.OK {
			t.Errorf("Derive of %s: %v", s, err)
			continue
		}
		got, err := Value(d, env)
		_, want, e2 := Dual(e, env, bind("x", 1))
		if got != want || err != e2 {
			t.Errorf("Derive of %s: %v, not %v", s, got, want)
		}
	}
	if d, err := Derive(parse(t, strings.Repeat("-(", 9)+"1000000000000*x^3"+strings.Repeat(")", 9)), "x"); err != api.ErrLarge || !same(d, api.Expr{}) {
		t.Errorf("Derive of a deep product: %v %v", d, err)
	}
	long := "(x+a1)*(x+a2)*(x+a3)*(x+a4)*(x+a5)*(x+a6)*(x+a7)*(x+a8)*(x+a9)*(x+a10)"
	if d, err := Derive(parse(t, long), "x"); err != api.ErrLarge || !same(d, api.Expr{}) {
		t.Errorf("Derive of a long product: %v", err)
	}
}

func TestDeriveTerms(t *testing.T) {
	m := newMaker(12, normalOps)
	done := 0
	for i := range 20000 {
		m.numbers = smallNumber
		if i%8 == 0 {
			m.numbers = wideNumber
		}
		e := m.any(6)
		by := m.names[m.r.Intn(len(m.names))]
		names, l, err := Terms(e)
		d, e2 := Derive(e, by)
		if err != api.OK {
			if err != api.ErrLarge && e2 != err && e2 != api.ErrType {
				t.Fatalf("Derive of %v: %v, not %v", e, e2, err)
			}
			continue
		}
		names, l, err = slope(names, l, by)
		if err != api.OK {
			continue
		}
		if e2 != api.OK {
			t.Fatalf("Derive of %v by %s: %v", e, by, e2)
		}
		done++
		got, k, err := Terms(d)
		if shown(got, k) != shown(names, l) || err != api.OK || !apart(e, d) {
			t.Fatalf("Derive of %v by %s: %v with %s, not %s", e, by, d, shown(got, k), shown(names, l))
		}
		all, _ := Names(e)
		its, _ := Names(d)
		for _, s := range its {
			if !slices.Contains(all, s) {
				t.Fatalf("Derive of %v by %s has %s", e, by, s)
			}
		}
	}
	if done < 10000 {
		t.Errorf("only %d derivatives", done)
	}
}

// TestDeriveDual holds derivatives against those of Dual.
func TestDeriveDual(t *testing.T) {
	m := newMaker(13, normalOps)
	done := 0
	for range 10000 {
		e := m.any(6)
		d, err := Derive(e, "x")
		if err != api.OK {
			continue
		}
		env := m.environment()
		got, err := Value(d, env)
		_, want, e2 := Dual(e, env, bind("x", 1))
		if err != api.OK || e2 != api.OK {
			continue
		}
		done++
		if got != want {
			t.Fatalf("Derive of %v: %v is %v, not %v", e, d, got, want)
		}
	}
	if done < 4000 {
		t.Errorf("only %d derivatives", done)
	}
}
