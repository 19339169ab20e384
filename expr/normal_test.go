package expr

import (
	"fmt"
	"math/big"
	"slices"
	"strings"
	"testing"

	"isocline/api"
)

// shown is a text of names and terms.
func shown(names []string, l []api.Term) string {
	s := strings.Join(names, ",")
	for _, t := range l {
		s += fmt.Sprintf("; %d/%d %v", t.C.N, t.C.D, t.X)
	}
	return s
}

func TestTerms(t *testing.T) {
	for s, want := range map[string]string{
		"(x + y)^2 - x * x":     "x,y; 2/1 [1 1]; 1/1 [0 2]",
		"0":                     "",
		"x-x":                   "",
		"0*x":                   "",
		"2/3":                   "; 2/3 []",
		"x":                     "x; 1/1 [1]",
		"-x":                    "x; -1/1 [1]",
		"y+x-2":                 "x,y; 1/1 [1 0]; 1/1 [0 1]; -2/1 [0 0]",
		"x-x+y":                 "y; 1/1 [1]",
		"(x+y)*(x-y)":           "x,y; 1/1 [2 0]; -1/1 [0 2]",
		"der(x)*pre(x)*x":       "der(x),pre(x),x; 1/1 [1 1 1]",
		"der(x)-pre(y)":         "der(x),pre(y); 1/1 [1 0]; -1/1 [0 1]",
		"x/2":                   "x; 1/2 [1]",
		"x/(y-y+2)":             "x; 1/2 [1]",
		"x/(2*3-1)/ -2":         "x; -1/10 [1]",
		"x^0":                   "; 1/1 []",
		"(x-x)^0":               "; 1/1 []",
		"(x-x)^3":               "",
		"x^1":                   "x; 1/1 [1]",
		"(2*x)^3":               "x; 8/1 [3]",
		"(x+1)^3":               "x; 1/1 [3]; 3/1 [2]; 3/1 [1]; 1/1 [0]",
		"(x-2)^2":               "x; 1/1 [2]; -4/1 [1]; 4/1 [0]",
		"(x+y+1)^2":             "x,y; 1/1 [2 0]; 2/1 [1 1]; 2/1 [1 0]; 1/1 [0 2]; 2/1 [0 1]; 1/1 [0 0]",
		"((x^6)^2+y)*(3-2-1)+z": "z; 1/1 [1]",
		"(x^6)^2":               "x; 1/1 [12]",
		"x*1000000000000*1000000000000/1000000000000": "x; 1000000000000/1 [1]",
		"(x+1)^2-(x-1)^2":     "x; 4/1 [1]",
		"(x^2+x*y+y^2)*(x-y)": "x,y; 1/1 [3 0]; -1/1 [0 3]",
		"b+a[1]+a.b+B+a":      "B,a,a.b,a[1],b; 1/1 [1 0 0 0 0]; 1/1 [0 1 0 0 0]; 1/1 [0 0 1 0 0]; 1/1 [0 0 0 1 0]; 1/1 [0 0 0 0 1]",
		"0.5*(x+1/3)":         "x; 1/2 [1]; 1/6 [0]",
		"(x-1000000000000)*(x+1000000000000)+1000000000000^2": "x; 1/1 [2]",
	} {
		names, l, err := Terms(parse(t, s))
		if got := shown(names, l); got != want || err != api.OK {
			t.Errorf("Terms of %q: %s %v, not %s", s, got, err, want)
		}
	}
}

func TestTermsErrors(t *testing.T) {
	sum := func(from, to int) string {
		var l []string
		for i := from; i < to; i++ {
			l = append(l, fmt.Sprint("n", i))
		}
		for len(l) > 1 { // not too deep
			half := (len(l) + 1) / 2
			for i := range len(l) / 2 {
				l[i] = "(" + l[i] + "+" + l[half+i] + ")"
			}
			l = l[:half]
		}
		return l[0]
	}
	for s, want := range map[string]api.Errno{
		"abs(x)": api.ErrType, "min(x,y)": api.ErrType, "max(x,y)": api.ErrType, "if x<y then 1 else 2": api.ErrType, "x<y": api.ErrType, "not x<y": api.ErrType,
		"x^-1": api.ErrType, "2^-1": api.ErrType, "x<y and y<x": api.ErrType,
		"1/x": api.ErrType, "1/(x-y)": api.ErrType, "1/(x+1-x)": api.OK, "1/0": api.ErrFit, "1/(x-x)": api.ErrFit, "0/(x-x)": api.ErrFit, "(1/0)^0": api.ErrFit, "0*(1/0)": api.ErrFit, "0*(1/x)": api.ErrType,
		// What is no node of normal forms comes first, then the first trouble from the left.
		"1/0+abs(x)": api.ErrType, "1/0+x^-1": api.ErrType, "1/0+1/x": api.ErrFit, "1/x+1/0": api.ErrType, "(1/0)/x": api.ErrFit, "x/(1/0)": api.ErrFit, "(x^6)^3+1/0": api.ErrLarge,
		"1/0+(x^6)^3": api.ErrFit, "(x^6)^3+1/x": api.ErrLarge, "(x^6)^3+abs(x)": api.ErrType, "(x^6)^3/0": api.ErrLarge, "1/((x^6)^3)": api.ErrLarge, "1/(y+(x^6)^3)": api.ErrLarge,
		// The sum of exponents.
		"(x^6)^2": api.OK, "(x^6)^2*x": api.ErrLarge, "0*((x^6)^2*x)": api.ErrLarge, "x^6*y^6": api.OK, "x^6*y^6*z": api.ErrLarge, "(x^6*y^6-x^6*y^6)*x": api.OK, "(x*y*z)^4": api.OK, "(x*y*z)^5": api.ErrLarge,
		"(x+y+z)^6*(x+y+z)^6": api.ErrLarge, "(x^3)^5": api.ErrLarge, "((x-x)^6)^6": api.OK, "x^6*y^6*(x-x)": api.OK,
		// The number of terms.
		"(1+x+y)^6*(1+x+y)^3": api.OK, "(1+x+y)^6*(1+x+y)^4": api.ErrLarge, "(x+y+z+u+v)^3": api.OK, "(x+y+z+u+v)^4": api.ErrLarge, "(x+y+z+u+v+w)^6-(x+y+z+u+v+w)^6": api.ErrLarge,
		sum(0, 39): api.OK, "(" + sum(0, 10) + ")^2": api.OK, "(" + sum(0, 11) + ")^2": api.ErrLarge, "(" + sum(0, 30) + ")^6": api.ErrLarge, "(" + sum(0, 30) + ")^1": api.OK,
		// Just 60 terms, and 61: of a product, a sum, a power.
		sum(0, 6) + "*" + sum(10, 20): api.OK, sum(0, 6) + "*" + sum(10, 20) + "+1": api.ErrLarge, sum(0, 6) + "*" + sum(10, 20) + "+1-1": api.ErrLarge,
		"((1+x+x^2)+(x^3+x^4+a)+(b+c+d)+(e+f))^2": api.OK, "((1+x+x^2)+(x^3+x^5+a)+(b+c+d)+(e+f))^2": api.ErrLarge,
		sum(0, 7) + "*" + sum(10, 18): api.OK, sum(0, 7) + "*" + sum(10, 19): api.ErrLarge, sum(0, 8) + "*" + sum(10, 18): api.ErrLarge,
		// The coefficients at the end.
		"1000000000000*x": api.OK, "2*(1000000000000*x)": api.ErrLarge, "2*(1000000000000*x)/2": api.OK, "2*(1000000000000*x)-2*x*1000000000000": api.OK, "x/1000000000000/10": api.OK, "x/1000000000000 / 10": api.ErrLarge,
		"1000000000000+1": api.ErrLarge, "(1000000000000^6)^6*x*0": api.OK, "((1000000000000^6)^6)^6*x*0": api.ErrLarge, "((1000000000000^6)^6*x)^2*0": api.OK, "((1000000000000^6)^6*x)^3*0": api.ErrLarge,
	} {
		e := parse(t, s)
		names, l, err := Terms(e)
		if err != want || err != api.OK && (names != nil || l != nil) {
			t.Errorf("Terms of %q: %v %v %v, not %v", s, names, l, err, want)
		}
		for _, f := range [][2]api.Expr{{e, e}, {e, name("x")}, {name("x"), e}} {
			if is, err := Same(f[0], f[1]); err != want || is && err != api.OK {
				t.Errorf("Same of %q: %v %v, not %v", s, is, err, want)
			}
		}
		if row, rest, is, err := Affine(e, nil); err != want || err != api.OK && (row != nil || rest != api.Rat{} || is) {
			t.Errorf("Affine of %q: %v %v %v %v, not %v", s, row, rest, is, err, want)
		}
	}
	for _, e := range []api.Expr{{}, chainOf(13), node(api.ENot, name("x"))} {
		if names, l, err := Terms(e); names != nil || l != nil || err != Validate(e) {
			t.Errorf("Terms of %v: %v %v %v", e, names, l, err)
		}
	}
}

// form is a normal form with the library's numbers, by the exponents as texts.
type form map[string]*big.Rat

func (f form) add(x string, c *big.Rat) {
	if _, ok := f[x]; !ok {
		f[x] = new(big.Rat)
	}
	f[x] = new(big.Rat).Add(f[x], c)
	if f[x].Sign() == 0 {
		delete(f, x)
	}
}

func (f form) degree() int {
	most := -1
	for x := range f {
		sum := 0
		for _, n := range []byte(x) {
			sum += int(n)
		}
		most = max(most, sum)
	}
	return most
}

func (f form) times(g form) form {
	p := form{}
	for x, c := range f {
		for y, d := range g {
			z := []byte(x)
			for i := range z {
				z[i] += y[i]
			}
			p.add(string(z), new(big.Rat).Mul(c, d))
		}
	}
	return p
}

// formOf calculates a normal form as the document says, node by node.
func formOf(e api.Expr, names []string) (form, api.Errno) {
	var kids []form
	for _, k := range e.Kids {
		f, err := formOf(k, names)
		if err != api.OK {
			return nil, err
		}
		kids = append(kids, f)
	}
	one := strings.Repeat("\x00", len(names))
	f := form{}
	switch e.Op {
	case api.EConst:
		f.add(one, toBig(e.N))
	case api.EAdd, api.ESub, api.ENeg:
		for i, k := range kids {
			sign := int64(1)
			if e.Op == api.ENeg || e.Op == api.ESub && i == 1 {
				sign = -1
			}
			for x, c := range k {
				f.add(x, new(big.Rat).Mul(c, big.NewRat(sign, 1)))
			}
		}
	case api.EMul:
		f = kids[0].times(kids[1])
	case api.EDiv:
		if kids[1].degree() > 0 {
			return nil, api.ErrType
		}
		if len(kids[1]) == 0 {
			return nil, api.ErrFit
		}
		f = kids[0].times(form{one: new(big.Rat).Inv(kids[1][one])})
	case api.EPow:
		f.add(one, big.NewRat(1, 1))
		for range e.N.N {
			f = f.times(kids[0])
		}
	default:
		s, _ := Names(e)
		x := []byte(one)
		x[slices.Index(names, s[0])]++
		f.add(string(x), big.NewRat(1, 1))
	}
	for _, c := range f {
		if isLong(c) {
			return nil, api.ErrLarge
		}
	}
	if len(f) > api.MaxTerms || f.degree() > api.MaxDeg {
		return nil, api.ErrLarge
	}
	return f, api.OK
}

// terms is what Terms has to return.
func (f form) terms(names []string) ([]string, []api.Term, api.Errno) {
	var keys, kept []string
	var stand []int
	for x := range f {
		keys = append(keys, x)
	}
	slices.Sort(keys)
	slices.Reverse(keys)
	for i := range names {
		if slices.ContainsFunc(keys, func(x string) bool { return x[i] > 0 }) {
			stand = append(stand, i)
			kept = append(kept, names[i])
		}
	}
	var l []api.Term
	for _, x := range keys {
		c, err := fromBig(f[x])
		if err != api.OK {
			return nil, nil, err
		}
		var exponents []int
		for _, i := range stand {
			exponents = append(exponents, int(x[i]))
		}
		l = append(l, api.Term{C: c, X: exponents})
	}
	return kept, l, api.OK
}

func TestTermsAgainstLibrary(t *testing.T) {
	m := newMaker(9, normalOps)
	met := map[api.Errno]int{}
	for i := range 20000 {
		m.numbers = smallNumber
		if i%4 == 0 {
			m.numbers = wideNumber
		}
		e := m.any(7)
		if i%3 == 0 {
			e = pow(e, 1+m.r.Intn(6))
		}
		if i%7 == 0 {
			e = node(api.EDiv, e, m.numeric(3))
		}
		if Validate(e) != api.OK {
			continue
		}
		all, _ := Names(e)
		var names []string
		var l []api.Term
		var want form
		err := api.ErrType
		if every(e, normalNode) {
			want, err = formOf(e, all)
		}
		if err == api.OK {
			names, l, err = want.terms(all)
		}
		got, m, e2 := Terms(e)
		if shown(got, m) != shown(names, l) || e2 != err {
			t.Fatalf("Terms of %v: %s %v, not %s %v", e, shown(got, m), e2, shown(names, l), err)
		}
		met[err]++
	}
	for _, err := range []api.Errno{api.OK, api.ErrType, api.ErrFit, api.ErrLarge} {
		if met[err] < 40 {
			t.Errorf("%v only %d times", err, met[err])
		}
	}
}

func TestSame(t *testing.T) {
	for s, want := range map[string]bool{
		"x | x": true, "x | y": false, "x+y | y+x": true, "(x+1)^2 | x*x+2*x+1": true, "(x+1)^2 | x*x+2*x": false, "x-x | 0": true, "x | der(x)": false,
		"x-x+y | y": true, "x/2 | 0.5*x": true, "x*y*0 | z-z": true, "2 | 3": false, "x^2 | x": false, "x*y | x*z": false, "a-b | b-a": false, "x | x^1": true,
	} {
		a, b, _ := strings.Cut(s, " | ")
		for _, c := range [][2]string{{a, b}, {b, a}} {
			if is, err := Same(parse(t, c[0]), parse(t, c[1])); is != want || err != api.OK {
				t.Errorf("Same of %s and %s: %v %v", c[0], c[1], is, err)
			}
		}
	}
	x := name("x")
	// Validate's errors of both come ahead of the others.
	for _, c := range []struct {
		e, f api.Expr
		want api.Errno
	}{
		{api.Expr{}, chainOf(13), api.ErrArg}, {chainOf(13), api.Expr{}, api.ErrLarge}, {x, api.Expr{}, api.ErrArg}, {node(api.EAbs, x), api.Expr{}, api.ErrArg},
		{parse(t, "1/0"), chainOf(13), api.ErrLarge}, {parse(t, "1/0"), node(api.EAbs, x), api.ErrFit}, {node(api.EAbs, x), parse(t, "1/0"), api.ErrType},
		{parse(t, "1000000000000*2*x"), parse(t, "1/0"), api.ErrLarge},
	} {
		if is, err := Same(c.e, c.f); is || err != c.want {
			t.Errorf("Same of %v and %v: %v %v, not %v", c.e, c.f, is, err, c.want)
		}
	}
}

func TestAffine(t *testing.T) {
	nought := q(0, 1)
	for _, c := range []struct {
		s, names string
		row      []api.Rat
		rest     api.Rat
		is       bool
		err      api.Errno
	}{
		{"2*x-y+3", "x y", []api.Rat{q(2, 1), q(-1, 1)}, q(3, 1), true, api.OK},
		{"2*x-y+3", "y x", []api.Rat{q(-1, 1), q(2, 1)}, q(3, 1), true, api.OK},
		{"2*x-y", "y a x b", []api.Rat{q(-1, 1), nought, q(2, 1), nought}, nought, true, api.OK},
		{"5", "", nil, q(5, 1), true, api.OK},
		{"x-x", "", nil, nought, true, api.OK},
		{"x-x+1/2", "y", []api.Rat{nought}, q(1, 2), true, api.OK},
		{"der(x)/3-pre(x)*4", "der(x) x pre(x)", []api.Rat{q(1, 3), nought, q(-4, 1)}, nought, true, api.OK},
		{"(x+1)^2-x^2", "x", []api.Rat{q(2, 1)}, q(1, 1), true, api.OK},
		{"x", "", nil, api.Rat{}, false, api.OK},
		{"x+y", "x", nil, api.Rat{}, false, api.OK},
		{"x+y^2", "x", nil, api.Rat{}, false, api.OK},
		{"x^2", "x", nil, api.Rat{}, false, api.OK},
		{"x*y", "x", nil, api.Rat{}, false, api.OK},
		{"x*y", "x y", nil, api.Rat{}, false, api.OK},
		{"x+der(x)", "x", nil, api.Rat{}, false, api.OK},
		{"x+1", "x y x", nil, api.Rat{}, false, api.ErrTwice},
		{"x^2", "y y", nil, api.Rat{}, false, api.ErrTwice},
		{"1/0", "y y", nil, api.Rat{}, false, api.ErrTwice},
		{"1/0", "y", nil, api.Rat{}, false, api.ErrFit},
		{"abs(x)", "x", nil, api.Rat{}, false, api.ErrType},
		{"1000000000000*2*x", "x", nil, api.Rat{}, false, api.ErrLarge},
		{"1000000000000*2*x*x", "x", nil, api.Rat{}, false, api.ErrLarge},
	} {
		row, rest, is, err := Affine(parse(t, c.s), strings.Fields(c.names))
		if !slices.Equal(row, c.row) || rest != c.rest || is != c.is || err != c.err {
			t.Errorf("Affine of %s in %s: %v %v %v %v", c.s, c.names, row, rest, is, err)
		}
	}
	if row, rest, is, err := Affine(api.Expr{}, []string{"x", "x"}); row != nil || rest != (api.Rat{}) || is || err != api.ErrArg {
		t.Errorf("Affine of no expression: %v %v %v %v", row, rest, is, err)
	}
	long := slices.Repeat([]string{""}, 1000)
	for i := range long {
		long[i] = fmt.Sprint("x", i)
	}
	if row, rest, is, err := Affine(parse(t, "x7-x999"), long); len(row) != 1000 || row[7] != q(1, 1) || row[999] != q(-1, 1) || rest != nought || !is || err != api.OK {
		t.Errorf("Affine in many names: %v %v %v", rest, is, err)
	}
}

// TestAffineTerms holds Affine against Terms.
func TestAffineTerms(t *testing.T) {
	m := newMaker(10, []int{api.EConst, api.EName, api.EName, api.EDer, api.ENeg, api.EAdd, api.EAdd, api.ESub, api.EMul, api.EDiv})
	yes := 0
	for range 10000 {
		e := m.any(5)
		listed := slices.Clone(m.names)
		m.r.Shuffle(len(listed), func(i, j int) { listed[i], listed[j] = listed[j], listed[i] })
		listed = listed[:m.r.Intn(len(listed)+1)]
		names, l, want := Terms(e)
		row, rest, is, err := Affine(e, listed)
		if err != want {
			t.Fatalf("Affine of %v: %v, not %v", e, err, want)
		}
		all := err == api.OK
		for _, s := range names {
			all = all && slices.Contains(listed, s)
		}
		for _, x := range l {
			_, degree := only(x.X)
			all = all && degree < 2
		}
		if is != all {
			t.Fatalf("Affine of %v in %v: %v", e, listed, is)
		}
		if !is {
			continue
		}
		yes++
		sum := fixed(rest)
		for i, s := range listed {
			sum = node(api.EAdd, sum, node(api.EMul, fixed(row[i]), name(s)))
		}
		if equal, err := Same(e, sum); !equal || err != api.OK {
			t.Fatalf("Affine of %v in %v: %v %v", e, listed, row, rest)
		}
	}
	if yes < 1000 {
		t.Errorf("only %d were affine", yes)
	}
}
