package poly

import (
	"math/big"
	"math/rand"
	"reflect"
	"slices"
	"testing"

	"isocline/api"
)

func TestDiv(t *testing.T) {
	most := q(api.MaxNum, 1)
	for _, c := range []struct {
		p, o, quotient, rest []api.Rat
		err                  api.Errno
	}{
		{whole(-1, 0, 1), whole(-1, 1), whole(1, 1), nil, api.OK},
		{whole(1, 0, 1), whole(-1, 1), whole(1, 1), whole(2), api.OK},
		{whole(1, 2), whole(1, 2, 3), nil, whole(1, 2), api.OK},
		{nil, whole(1, 2, 3), nil, nil, api.OK},
		{whole(1, 2), whole(2), []api.Rat{q(1, 2), q(1, 1)}, nil, api.OK},
		{whole(1, 2, 3), whole(1, 2), []api.Rat{q(1, 4), q(3, 2)}, []api.Rat{q(3, 4)}, api.OK},
		{whole(0, 5, 3), whole(0, 3), []api.Rat{q(5, 3), q(1, 1)}, nil, api.OK},
		{power(12), power(12), whole(1), nil, api.OK},
		{power(12), power(5), power(7), nil, api.OK},
		{whole(1, 2), nil, nil, nil, api.ErrNone},
		{nil, nil, nil, nil, api.ErrNone},
		{[]api.Rat{most}, []api.Rat{q(1, 2)}, nil, nil, api.ErrLarge},
		// Only the remainder is large.
		{power(12), whole(-11, 1), nil, nil, api.ErrLarge},
		{whole(0, 0, 1), whole(-api.MaxNum, 1), nil, nil, api.ErrLarge},
		// Only what is in between is large.
		{whole(0, 0, 1), []api.Rat{q(-1, 1), q(1, api.MaxNum)}, nil, nil, api.ErrLarge},
		{[]api.Rat{q(-1000000, 1), q(0, 1), q(1, 1000000)}, []api.Rat{q(-1, 1), q(1, 1000000)}, []api.Rat{q(1000000, 1), q(1, 1)}, nil, api.OK},
	} {
		quotient, rest, e := Div(c.p, c.o)
		samePoly(t, "quotient", quotient, e, c.quotient, c.err)
		samePoly(t, "rest", rest, e, c.rest, c.err)
	}
}

func TestGcd(t *testing.T) {
	for _, c := range []struct {
		p, o, want []api.Rat
		err        api.Errno
	}{
		{nil, nil, nil, api.OK},
		{nil, whole(2, 4), []api.Rat{q(1, 2), q(1, 1)}, api.OK},
		{whole(2, -4), nil, []api.Rat{q(-1, 2), q(1, 1)}, api.OK},
		{nil, whole(-7), whole(1), api.OK},
		{whole(6), whole(4), whole(1), api.OK},
		{whole(6), whole(4, 4), whole(1), api.OK},
		{whole(-1, 0, 1), whole(1, 2, 1), whole(1, 1), api.OK},
		{whole(-1, 0, 1), whole(2, 1), whole(1), api.OK},
		{whole(-2, 0, 2), whole(-3, 0, 3), whole(-1, 0, 1), api.OK},
		{power(12), power(5), power(5), api.OK},
		{power(5), power(12), power(5), api.OK},
		{whole(-api.MaxNum, 1), whole(-api.MaxNum, 1), whole(-api.MaxNum, 1), api.OK},
		{[]api.Rat{q(api.MaxNum, 1), q(1, 2)}, nil, nil, api.ErrLarge},
		{[]api.Rat{q(1, 1), q(1, 1), q(api.MaxNum, 1), q(1, 2)}, power(12), whole(1), api.OK},
	} {
		p, e := Gcd(c.p, c.o)
		samePoly(t, "Gcd", p, e, c.want, c.err)
	}
}

func TestDivisionAgainstLibrary(t *testing.T) {
	r := rand.New(rand.NewSource(6))
	for range 3000 {
		p, o := related(r)
		g, e := Gcd(p, o)
		want, err := toPlain(p).gcd(toPlain(o)).numbers()
		samePoly(t, "Gcd", g, e, want, err)
		if len(o) == 0 {
			continue
		}
		a, b := toPlain(p).div(toPlain(o))
		x, e1 := a.numbers()
		y, e2 := b.numbers()
		quotient, rest, e := Div(p, o)
		if e1 != api.OK || e2 != api.OK {
			x, y, e1 = nil, nil, api.ErrLarge
		}
		samePoly(t, "quotient", quotient, e, x, e1)
		samePoly(t, "rest", rest, e, y, e1)
	}
}

func TestPrimitive(t *testing.T) {
	for _, c := range []struct {
		p, want []api.Rat
		f       api.Rat
		err     api.Errno
	}{
		{nil, nil, api.Rat{}, api.ErrNone},
		{whole(7), whole(1), q(7, 1), api.OK},
		{[]api.Rat{q(-7, 3)}, whole(1), q(-7, 3), api.OK},
		{whole(6, 0, 4), whole(3, 0, 2), q(2, 1), api.OK},
		{whole(6, 0, -4), whole(-3, 0, 2), q(-2, 1), api.OK},
		{[]api.Rat{q(1, 2), q(1, 3)}, whole(3, 2), q(1, 6), api.OK},
		{[]api.Rat{q(4, 3), q(-10, 9)}, whole(-6, 5), q(-2, 9), api.OK},
		{whole(0, 5), whole(0, 1), q(5, 1), api.OK},
		{[]api.Rat{q(1, api.MaxNum), q(1, 1)}, whole(1, api.MaxNum), q(1, api.MaxNum), api.OK},
		{[]api.Rat{q(1, api.MaxNum), q(2, 1)}, nil, api.Rat{}, api.ErrLarge},
		{[]api.Rat{q(1, api.MaxNum), q(1, api.MaxNum-1)}, nil, api.Rat{}, api.ErrLarge},
		// The polynomial is not large, the number is.
		{[]api.Rat{q(3, 1000000), q(3, 1000001)}, nil, api.Rat{}, api.ErrLarge},
	} {
		p, f, e := Primitive(c.p)
		samePoly(t, "Primitive", p, e, c.want, c.err)
		if f != c.f {
			t.Errorf("Primitive of %v: %v, not %v", c.p, f, c.f)
		}
	}
}

// TestPrimitiveAgain looks at what a primitive polynomial is.
func TestPrimitiveAgain(t *testing.T) {
	r := rand.New(rand.NewSource(7))
	for range 2000 {
		p := random(r, api.MaxDeg)
		got, f, e := Primitive(p)
		if e != api.OK {
			continue
		}
		common := new(big.Int)
		for _, c := range got {
			if c.D != 1 {
				t.Fatalf("Primitive of %v: %v", p, got)
			}
			common.GCD(nil, nil, common, new(big.Int).Abs(big.NewInt(int64(c.N))))
		}
		again, _ := toPlain(got).scale(toPlain([]api.Rat{f})[0]).numbers()
		if common.Int64() != 1 || got[len(got)-1].N < 0 || !slices.Equal(again, p) {
			t.Fatalf("Primitive of %v: %v %v", p, got, f)
		}
	}
}

func TestSquares(t *testing.T) {
	type powers = []api.Power
	for _, c := range []struct {
		p    []api.Rat
		want powers
		last api.Rat
		err  api.Errno
	}{
		{nil, nil, api.Rat{}, api.ErrNone},
		{whole(-7), nil, q(-7, 1), api.OK},
		{whole(0, 0, -2, 2), powers{{P: whole(-1, 1), N: 1}, {P: whole(0, 1), N: 2}}, q(2, 1), api.OK},
		{[]api.Rat{q(1, 3), q(-1, 2)}, powers{{P: []api.Rat{q(-2, 3), q(1, 1)}, N: 1}}, q(-1, 2), api.OK},
		{power(12), powers{{P: whole(0, 1), N: 12}}, q(1, 1), api.OK},
		{whole(-1, 0, 0, 0, 0, 0, 0, 0, 0, 0, 0, 0, 1), powers{{P: whole(-1, 0, 0, 0, 0, 0, 0, 0, 0, 0, 0, 0, 1), N: 1}}, q(1, 1), api.OK},
		{whole(1, 0, 2, 0, 1), powers{{P: whole(1, 0, 1), N: 2}}, q(1, 1), api.OK},
		// (t^2 - 2) * (t + 1)^3, a number left out in between.
		{whole(-2, -6, -5, 1, 3, 1), powers{{P: whole(-2, 0, 1), N: 1}, {P: whole(1, 1), N: 3}}, q(1, 1), api.OK},
		{[]api.Rat{q(api.MaxNum, 1), q(1, 2)}, nil, api.Rat{}, api.ErrLarge},
	} {
		l, last, e := Squares(c.p)
		if !slices.EqualFunc(l, c.want, func(x, y api.Power) bool { return reflect.DeepEqual(x, y) }) || last != c.last || e != c.err {
			t.Errorf("Squares of %v: %v %v %v, not %v %v %v", c.p, l, last, e, c.want, c.last, c.err)
		}
	}
}

// TestSquaresAgain multiplies the factors again, and looks at what is promised of each.
func TestSquaresAgain(t *testing.T) {
	r := rand.New(rand.NewSource(8))
	tried := 0
	for range 3000 {
		p := plain{big.NewRat(1, 1)}
		for range r.Intn(5) + 1 {
			f := toPlain(random(r, 3))
			for range r.Intn(4) + 1 {
				if len(f) > 0 && len(p)+len(f)-1 <= api.MaxDeg+1 {
					p = p.mul(f)
				}
			}
		}
		arg, e := p.numbers()
		if e != api.OK {
			continue
		}
		l, last, e := Squares(arg)
		if e == api.ErrLarge {
			continue
		}
		tried++
		product, radical := toPlain([]api.Rat{last}), plain{big.NewRat(1, 1)}
		before := 0
		for _, f := range l {
			radical = radical.mul(toPlain(f.P))
			for range f.N {
				product = product.mul(toPlain(f.P))
			}
			if f.N <= before || len(f.P) < 2 || f.P[len(f.P)-1] != q(1, 1) {
				t.Fatalf("Squares of %v: %v", arg, l)
			}
			before = f.N
		}
		again, _ := product.numbers()
		if e != api.OK || !slices.Equal(again, arg) || len(radical.gcd(derived(radical))) != 1 {
			t.Fatalf("Squares of %v: %v %v %v", arg, l, last, e)
		}
	}
	if tried < 500 {
		t.Errorf("only %d were tried", tried)
	}
}

func derived(p plain) plain {
	d := plain{}
	for i := 1; i < len(p); i++ {
		d = append(d, new(big.Rat).Mul(p[i], big.NewRat(int64(i), 1)))
	}
	return d
}

func TestResultant(t *testing.T) {
	for _, c := range []struct {
		p, o []api.Rat
		want api.Rat
		err  api.Errno
	}{
		{whole(-1, 1), whole(-3, 1), q(-2, 1), api.OK},
		{whole(-3, 1), whole(-1, 1), q(2, 1), api.OK},
		{nil, nil, q(0, 1), api.OK},
		{nil, whole(5), q(0, 1), api.OK},
		{whole(5), nil, q(0, 1), api.OK},
		{nil, whole(5, 1), q(0, 1), api.OK},
		{whole(5), whole(-7), q(1, 1), api.OK},
		{whole(5), whole(1, 2, 3), q(25, 1), api.OK},
		{whole(1, 2, 3, 4), whole(-5), q(-125, 1), api.OK},
		{whole(-1, 0, 1), whole(1, 2, 1), q(0, 1), api.OK},
		{whole(-1, 0, 1), whole(-4, 0, 1), q(9, 1), api.OK},
		{whole(1, 0, 1), whole(0, 1), q(1, 1), api.OK},
		{whole(-8, 0, 0, 1), whole(-1, 2), q(63, 1), api.OK},
		{whole(-1, 2), whole(-8, 0, 0, 1), q(-63, 1), api.OK},
		{[]api.Rat{q(1, 2), q(1, 3)}, whole(1, 1), q(-1, 6), api.OK},
		// A remainder of a much lesser degree: 5 for the first two, 3*t + 2 for the third.
		{whole(6, 3, 5, 6), whole(1, 1, 3), q(675, 1), api.OK},
		{whole(1, 1, 3), whole(6, 3, 5, 6), q(675, 1), api.OK},
		{whole(3, 4, 0, 0, 2, 2), whole(1, 0, 0, 0, 2), q(1808, 1), api.OK},
		{power(12), power(12), q(0, 1), api.OK},
		{power(12), whole(10, 1), q(api.MaxNum, 1), api.OK},
		{power(12), whole(11, 1), api.Rat{}, api.ErrLarge},
		{whole(2), whole(1, 0, 0, 0, 0, 0, 0, 0, 0, 0, 0, 0, 1), q(4096, 1), api.OK},
		{power(12), []api.Rat{q(1, 11), q(1, 1)}, api.Rat{}, api.ErrLarge},
	} {
		if x, e := Resultant(c.p, c.o); x != c.want || e != c.err {
			t.Errorf("Resultant of %v, %v: %v %v, not %v %v", c.p, c.o, x, e, c.want, c.err)
		}
	}
}

// sylvester is the determinant of the Sylvester matrix.
func sylvester(p, o plain) *big.Rat {
	m, n := len(p)-1, len(o)-1
	var rows []plain
	row := func(f plain, shift int) {
		l := make(plain, m+n)
		for i := range l {
			l[i] = new(big.Rat)
		}
		for i, c := range f {
			l[shift+len(f)-1-i].Set(c)
		}
		rows = append(rows, l)
	}
	for i := range n {
		row(p, i)
	}
	for i := range m {
		row(o, i)
	}
	det := big.NewRat(1, 1)
	for i := range rows {
		at := slices.IndexFunc(rows[i:], func(r plain) bool { return r[i].Sign() != 0 })
		if at < 0 {
			return new(big.Rat)
		}
		if at > 0 {
			rows[i], rows[i+at] = rows[i+at], rows[i]
			det.Neg(det)
		}
		det.Mul(det, rows[i][i])
		for _, r := range rows[i+1:] {
			k := new(big.Rat).Quo(r[i], rows[i][i])
			for j := range r {
				r[j].Sub(r[j], new(big.Rat).Mul(k, rows[i][j]))
			}
		}
	}
	return det
}

func TestResultantAgainstLibrary(t *testing.T) {
	r := rand.New(rand.NewSource(9))
	within := 0
	for range 3000 {
		p, o := random(r, 7), random(r, 7)
		if r.Intn(2) == 0 {
			p, o = related(r)
		}
		if len(p) == 0 || len(o) == 0 {
			continue
		}
		want, err := numberOf(sylvester(toPlain(p), toPlain(o)))
		if err == api.OK && want.N != 0 {
			within++
		}
		if x, e := Resultant(p, o); x != want || e != err {
			t.Fatalf("Resultant of %v, %v: %v %v, not %v %v", p, o, x, e, want, err)
		}
	}
	if within < 300 {
		t.Errorf("only %d were within the limit", within)
	}
}

func TestBezout(t *testing.T) {
	third := []api.Rat{q(1, 3)}
	for _, c := range []struct {
		name       string
		p, o, u, v []api.Rat
		err        api.Errno
	}{
		{"both zero", nil, nil, nil, nil, api.OK},
		{"q zero", whole(1, 3), nil, third, nil, api.OK},
		{"p zero", nil, whole(1, 3), nil, third, api.OK},
		{"p zero, q constant", nil, whole(3), nil, third, api.OK},
		{"two constants", whole(5), whole(3), nil, third, api.OK},
		{"q constant", whole(5, 1), whole(3), nil, third, api.OK},
		{"p constant", whole(3), whole(5, 1), third, nil, api.OK},
		{"p a multiple of q", whole(-1, 0, 1), whole(-3, 3), nil, third, api.OK},
		{"q a multiple of p", whole(-3, 3), whole(-1, 0, 1), third, nil, api.OK},
		{"multiples of each other", whole(-2, 2), whole(-3, 3), nil, third, api.OK},
		{"lines", whole(-1, 1), whole(-3, 1), []api.Rat{q(1, 2)}, []api.Rat{q(-1, 2)}, api.OK},
		{"common divisor", whole(0, -1, 1), whole(0, -3, 1), []api.Rat{q(1, 2)}, []api.Rat{q(-1, 2)}, api.OK},
		{"square and line", whole(1, 0, 1), whole(0, 1), whole(1), whole(0, -1), api.OK},
		{"line and square", whole(0, 1), whole(1, 0, 1), whole(0, -1), whole(1), api.OK},
		{"large", whole(0, 0, 1), whole(api.MaxNum, 1), nil, nil, api.ErrLarge},
		{"large divisor, fine factors", []api.Rat{q(api.MaxNum, 1), q(1, 2)}, nil, whole(2), nil, api.OK},
		{"large factor", whole(1), []api.Rat{q(1, api.MaxNum), q(1, 1)}, whole(1), nil, api.OK},
	} {
		u, v, e := Bezout(c.p, c.o)
		samePoly(t, c.name+": u", u, e, c.u, c.err)
		samePoly(t, c.name+": v", v, e, c.v, c.err)
	}
}

// TestBezoutAgain looks at the sum and at the degrees; they determine u and v.
func TestBezoutAgain(t *testing.T) {
	r := rand.New(rand.NewSource(10))
	tried := 0
	for range 5000 {
		p, o := related(r)
		if len(p) == 0 || len(o) == 0 {
			continue
		}
		u, v, e := Bezout(p, o)
		g := toPlain(p).gcd(toPlain(o))
		a, _ := toPlain(p).div(g)
		b, _ := toPlain(o).div(g)
		if e == api.ErrLarge && len(a) > 1 && len(b) > 1 {
			wantLarge(t, a, b)
			continue
		}
		tried++
		sum, _ := toPlain(u).mul(toPlain(p)).add(toPlain(v).mul(toPlain(o)), big.NewRat(1, 1)).numbers()
		want, _ := g.numbers()
		if e != api.OK || !slices.Equal(sum, want) {
			t.Fatalf("Bezout of %v, %v: %v %v %v", p, o, u, v, e)
		}
		if len(a) > 1 && len(b) > 1 && (len(u) >= len(b) || len(v) >= len(a)) {
			t.Fatalf("Bezout of %v, %v: degrees of %v %v", p, o, u, v)
		}
	}
	if tried < 500 {
		t.Errorf("only %d were tried", tried)
	}
}

// wantLarge finds u and v for the coprime a and b by Euclid's way: one of them is large indeed.
func wantLarge(t *testing.T, a, b plain) {
	t.Helper()
	one, minus := plain{big.NewRat(1, 1)}, big.NewRat(-1, 1)
	x, y := a, b
	u, next := one, plain{}
	for len(y) > 0 {
		quotient, rest := x.div(y)
		x, y = y, rest
		u, next = next, u.add(quotient.mul(next), minus)
	}
	u = u.scale(new(big.Rat).Inv(x[0]))
	v, rest := one.add(u.mul(a), minus).div(b)
	_, e1 := u.numbers()
	_, e2 := v.numbers()
	if len(rest) != 0 || e1 == api.OK && e2 == api.OK {
		t.Fatalf("Bezout of multiples of %v, %v: large without need", a, b)
	}
}
