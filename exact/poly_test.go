package exact

import (
	"math/big"
	"math/rand"
	"testing"

	"isocline/api"
)

func TestNumber(t *testing.T) {
	most := NewInt(api.MaxNum)
	over := most.Add(NewInt(1))
	huge := NewInt(7).Power(200)
	for _, c := range []struct {
		n, d Int
		want api.Rat
		err  api.Errno
	}{
		{NewInt(0), NewInt(-5), api.Rat{N: 0, D: 1}, api.OK},
		{NewInt(0), huge, api.Rat{N: 0, D: 1}, api.OK},
		{NewInt(6), NewInt(-4), api.Rat{N: -3, D: 2}, api.OK},
		{NewInt(-6), NewInt(-4), api.Rat{N: 3, D: 2}, api.OK},
		{NewInt(4), NewInt(6), api.Rat{N: 2, D: 3}, api.OK},
		{most, NewInt(1), api.Rat{N: api.MaxNum, D: 1}, api.OK},
		{NewInt(-1), most, api.Rat{N: -1, D: api.MaxNum}, api.OK},
		{over, NewInt(1), api.Rat{}, api.ErrLarge},
		{NewInt(1), over, api.Rat{}, api.ErrLarge},
		{over.Neg(), most, api.Rat{}, api.ErrLarge},
		{huge, NewInt(1), api.Rat{}, api.ErrLarge},
		{NewInt(1), huge, api.Rat{}, api.ErrLarge},
		{NewInt(-1 << 63), NewInt(1), api.Rat{}, api.ErrLarge},
		{huge.Mul(NewInt(5)), huge.Mul(NewInt(-9)), api.Rat{N: -5, D: 9}, api.OK},
		{huge.Mul(most), huge.Mul(NewInt(api.MaxNum - 1)), api.Rat{N: api.MaxNum, D: api.MaxNum - 1}, api.OK},
		{huge.Mul(NewInt(5)).Add(NewInt(1)), huge, api.Rat{}, api.ErrLarge},
	} {
		if x, e := Number(c.n, c.d); x != c.want || e != c.err {
			t.Errorf("Number of %v, %v: %v %v, not %v %v", c.n, c.d, x, e, c.want, c.err)
		}
	}
}

// TestNumberAgainstRatio compares with what a common divisor gives, for numbers near the limit too.
func TestNumberAgainstRatio(t *testing.T) {
	r := rand.New(rand.NewSource(3))
	near := func() Int { return NewInt(api.MaxNum + r.Intn(2001) - 1000) }
	for i := range 20000 {
		l := samples(r, 2, 3)
		n, d, k := l[0], l[1], l[2]
		switch i % 3 {
		case 1:
			n, d = near(), NewInt(r.Intn(2000)+1)
		case 2:
			n, d = near(), near()
		}
		if d.Sign() == 0 || k.Sign() == 0 {
			continue
		}
		want, err := NewRatio(n, d).Rat()
		if x, e := Number(n.Mul(k), d.Mul(k)); x != want || e != err {
			t.Fatalf("Number of %v, %v: %v %v, not %v %v", n, d, x, e, want, err)
		}
	}
}

func TestCommon(t *testing.T) {
	for _, c := range []struct {
		p     []api.Rat
		want  []int
		under int
	}{
		{nil, nil, 1},
		{[]api.Rat{{N: 5, D: 1}}, []int{5}, 1},
		{[]api.Rat{{N: -1, D: 6}, {N: 0, D: 1}, {N: 3, D: 4}}, []int{-2, 0, 9}, 12},
		{[]api.Rat{{N: 1, D: 1}, {N: -7, D: api.MaxNum}}, []int{api.MaxNum, -7}, api.MaxNum},
		{[]api.Rat{{N: 4, D: 3}, {N: 8, D: 3}}, []int{4, 8}, 3},
	} {
		p, under := Common(c.p)
		if len(p) != len(c.want) || under.Cmp(NewInt(c.under)) != 0 {
			t.Fatalf("Common of %v: %v %v", c.p, p, under)
		}
		for i, n := range c.want {
			if p[i].Cmp(NewInt(n)) != 0 {
				t.Errorf("Common of %v: %v %v", c.p, p, under)
			}
		}
	}
	p, under := Common([]api.Rat{{N: 1, D: 999999999989}, {N: 1, D: 999999999961}, {N: 1, D: 999999999959}})
	a, b, c := NewInt(999999999989), NewInt(999999999961), NewInt(999999999959)
	if under.Cmp(a.Mul(b).Mul(c)) != 0 || p[0].Cmp(b.Mul(c)) != 0 || p[1].Cmp(a.Mul(c)) != 0 || p[2].Cmp(a.Mul(b)) != 0 {
		t.Errorf("Common of large denominators: %v %v", p, under)
	}
}

// polys returns polynomials of a degree of at most degree, among them zero and constants.
func polys(r *rand.Rand, degree, count int) []Poly {
	var l []Poly
	for range count {
		if r.Intn(2) == 0 {
			l = append(l, NewPoly(samples(r, 2, r.Intn(degree+2))))
			continue
		}
		small := make([]Int, r.Intn(degree+2))
		for i := range small {
			small[i] = NewInt(r.Intn(9) - 4)
		}
		l = append(l, NewPoly(small))
	}
	return l
}

// value returns the value of p at x: two polynomials with equal values at more places than their degrees are equal.
func value(t *testing.T, p Poly, x int) *big.Int {
	t.Helper()
	if len(p) > 0 && p.Last().Sign() == 0 {
		t.Fatalf("a nought at the top: %v", p)
	}
	v := new(big.Int)
	for i := p.Degree(); i >= 0; i-- {
		v.Mul(v, big.NewInt(int64(x)))
		v.Add(v, toBig(t, p[i]))
	}
	return v
}

func sameValues(t *testing.T, what string, p Poly, want func(x int) *big.Int) {
	t.Helper()
	for x := range 30 {
		if value(t, p, x-10).Cmp(want(x-10)) != 0 {
			t.Fatalf("%s: %v", what, p)
		}
	}
}

func TestPolyAgainstLibrary(t *testing.T) {
	r := rand.New(rand.NewSource(4))
	for range 500 {
		l := polys(r, 6, 2)
		p, q := l[0], l[1]
		k := samples(r, 2, 1)[0]
		sameValues(t, "Add", p.Add(q), func(x int) *big.Int { return new(big.Int).Add(value(t, p, x), value(t, q, x)) })
		sameValues(t, "Sub", p.Sub(q), func(x int) *big.Int { return new(big.Int).Sub(value(t, p, x), value(t, q, x)) })
		sameValues(t, "Mul", p.Mul(q), func(x int) *big.Int { return new(big.Int).Mul(value(t, p, x), value(t, q, x)) })
		sameValues(t, "Scale", p.Scale(k), func(x int) *big.Int { return new(big.Int).Mul(value(t, p, x), toBig(t, k)) })
		sameValues(t, "Sub of itself", p.Sub(p), func(int) *big.Int { return new(big.Int) })
		same := func(what string, a, b Poly) {
			t.Helper()
			sameValues(t, what, a, func(x int) *big.Int { return value(t, b, x) })
		}
		product := p.Derive().Mul(q).Add(p.Mul(q.Derive()))
		same("Derive", p.Mul(q).Derive(), product)
		n, d := samples(r, 2, 1)[0], NewInt(1+r.Intn(1000))
		powers := new(big.Int) // the sum of the coefficients times powers of n and d
		for i, c := range p {
			powers.Add(powers, toBig(t, c.Mul(n.Power(i)).Mul(d.Power(p.Degree()-i))))
		}
		if toBig(t, p.Value(n, d)).Cmp(powers) != 0 {
			t.Fatalf("Value of %v at %v/%v: %v", p, n, d, p.Value(n, d))
		}
		if len(q) == 0 {
			continue
		}
		same("Quo", p.Mul(q).Quo(q), p)
		m, quotient, rest := p.Div(q)
		same("Div", quotient.Mul(q).Add(rest), p.Scale(m))
		if rest.Degree() >= q.Degree() || m.Sign() == 0 {
			t.Fatalf("Div of %v, %v: %v %v %v", p, q, m, quotient, rest)
		}
		primitive, content := q.Primitive()
		again, one := primitive.Primitive()
		same("Primitive", primitive.Scale(content), q)
		same("Primitive again", again, primitive)
		if one.Cmp(NewInt(1)) != 0 || primitive.Last().Sign() < 0 {
			t.Fatalf("Primitive of %v: %v %v", q, primitive, content)
		}
	}
}

// TestRemainders looks at what follows two of the row: with one number above 0 and one below 0, they make a multiple of the one between.
func TestRemainders(t *testing.T) {
	r := rand.New(rand.NewSource(6))
	for range 1000 {
		l := polys(r, 4, 3)
		p, q := l[0].Mul(l[2]), l[1].Mul(l[2])
		if p.Degree() < q.Degree() {
			p, q = q, p
		}
		if len(p) == 0 {
			continue
		}
		row := p.Remainders(q)
		sameValues(t, "the first", row[0], func(x int) *big.Int { return value(t, p, x) })
		if len(row) > 1 {
			sameValues(t, "the second", row[1], func(x int) *big.Int { return value(t, q, x) })
		}
		for i := 2; i < len(row); i++ {
			k, _, rest := row[i-2].Div(row[i-1])
			// A number times the member, and one times the rest, are equal: their signs have to be opposite.
			a, b := rest.Last(), row[i].Last()
			sameValues(t, "a member", row[i].Scale(a), func(x int) *big.Int { return value(t, rest.Scale(b), x) })
			if a.Sign()*b.Sign()*k.Sign() >= 0 || row[i].Degree() >= row[i-1].Degree() {
				t.Fatalf("Remainders of %v, %v: %v", p, q, row)
			}
		}
		if g := p.Gcd(q); row[len(row)-1].Degree() != g.Degree() {
			t.Fatalf("Remainders of %v, %v end in %v", p, q, row[len(row)-1])
		}
	}
}

// TestSequence looks at what a greatest common divisor and a resultant are.
func TestSequence(t *testing.T) {
	r := rand.New(rand.NewSource(5))
	for range 1000 {
		l := polys(r, 4, 3)
		p, q, c := l[0].Mul(l[2]), l[1].Mul(l[2]), l[2]
		g := p.Gcd(q)
		if len(p) == 0 && len(q) == 0 {
			if len(g) != 0 {
				t.Fatalf("Gcd of zeros: %v", g)
			}
			continue
		}
		if _, one := g.Primitive(); one.Cmp(NewInt(1)) != 0 || g.Degree() < c.Degree() {
			t.Fatalf("Gcd of %v, %v: %v", p, q, g)
		}
		for _, x := range []Poly{p, q} {
			if _, _, rest := x.Div(g); len(rest) != 0 {
				t.Fatalf("Gcd of %v, %v: %v", p, q, g)
			}
		}
		u, v, h := p.Bezout(q)
		if len(u.Mul(p).Add(v.Mul(q)).Sub(h)) != 0 || h.Degree() != g.Degree() {
			t.Fatalf("Bezout of %v, %v: %v %v %v", p, q, u, v, h)
		}
		common := len(p) == 0 || len(q) == 0 || g.Degree() > 0
		if (p.Resultant(q).Sign() == 0) != common {
			t.Fatalf("Resultant of %v, %v: %v", p, q, p.Resultant(q))
		}
		if len(q) > 0 && len(l[0]) > 0 && len(c) > 0 {
			a, b := l[0].Resultant(q), c.Resultant(q)
			if p.Resultant(q).Cmp(a.Mul(b)) != 0 || q.Resultant(p).Cmp(q.Resultant(l[0]).Mul(q.Resultant(c))) != 0 {
				t.Fatalf("Resultant of a product: %v, %v", p, q)
			}
		}
	}
	if x := Poly(nil).Resultant(nil); x.Sign() != 0 {
		t.Errorf("Resultant of zeros: %v", x)
	}
}
