package span

import (
	"math/big"
	"math/rand"
	"slices"
	"testing"

	"isocline/api"
	"isocline/poly"
	"isocline/rat"
	"isocline/root"
)

func TestHorner(t *testing.T) {
	most := api.MaxNum
	for _, c := range []struct {
		name string
		p    []api.Rat
		x    api.Span
		g    int
		want api.Span
		err  api.Errno
	}{
		{"square", whole(0, 0, 1), from(-1, 2), 1, from(-2, 4), api.OK},
		{"zero", nil, from(-1, 2), 1, from(0, 0), api.OK},
		{"constant", whole(5), from(-1, 2), 1, from(5, 5), api.OK},
		{"rounded constant", []api.Rat{q(1, 3)}, from(-1, 2), 10, parts(3, 4, 10), api.OK},
		{"rounded in each step", []api.Rat{q(1, 3), q(1, 3)}, from(2, 2), 1, from(0, 3), api.OK},
		{"rounded products", whole(0, 1), parts(1, 1, 2), 1, from(0, 1), api.OK},
		{"line", whole(1, -3), from(-1, 2), 1, from(-5, 4), api.OK},
		{"one number", whole(1, 1, 1), from(-3, -3), 1, from(7, 7), api.OK},
		{"around nought", whole(-1, 0, 1), from(-1, 1), 1, from(-2, 0), api.OK},
		{"greatest", whole(0, most), from(-1, 1), api.MaxGrid, from(-most, most), api.OK},
		{"large in the end", whole(1, most), from(0, 1), 1, api.Span{}, api.ErrLarge},
		{"large product in between", whole(-most, 2), from(0, most), 1, api.Span{}, api.ErrLarge},
		{"large sum in between", whole(0, 1, most), from(0, 1), 1, api.Span{}, api.ErrLarge},
		{"large product ahead of one with nought", whole(0, most, 0), from(0, 0), 1, api.Span{}, api.ErrArg},
		{"fine constant", []api.Rat{q(1, most)}, from(0, 1), api.MaxGrid, parts(0, 1, api.MaxGrid), api.OK},
		{"constant that can't be rounded", []api.Rat{q(most, 3)}, from(0, 1), 7, api.Span{}, api.ErrLarge},
		{"grid", whole(1), from(0, 1), 0, api.Span{}, api.ErrArg},
	} {
		x, e := Horner(c.p, c.x, c.g)
		check(t, answer{"Horner: " + c.name, x, e, c.want, c.err})
	}
}

// hornerOf is Horner's scheme with Mul and Add, as far as the coefficients are numbers.
func hornerOf(p []*big.Rat, x api.Span, g int) (plain, api.Errno) {
	y := hullOf(new(big.Rat))
	for i := len(p) - 1; i >= 0; i-- {
		for _, by := range []plain{
			each(y, toPlain(x), (*big.Rat).Mul).outward(g),
			each(each(y, toPlain(x), (*big.Rat).Mul).outward(g), plain{p[i], p[i]}, (*big.Rat).Add).outward(g),
		} {
			if _, e := by.span(); e != api.OK {
				return plain{}, e
			}
		}
		y = each(y, toPlain(x), (*big.Rat).Mul).outward(g)
		y = each(y, plain{p[i], p[i]}, (*big.Rat).Add).outward(g)
	}
	return y, api.OK
}

// polynomial is a random one, now and then with coefficients at the ends of what is allowed.
func polynomial(r *rand.Rand) []api.Rat {
	var p []api.Rat
	for range r.Intn(api.MaxDeg + 2) {
		x := q(r.Intn(9)-4, 1)
		if r.Intn(6) == 0 {
			x = number(r)
		}
		p = append(p, x)
	}
	if n := len(p); n > 0 && p[n-1].N == 0 {
		p[n-1] = q(1, 1)
	}
	return p
}

// narrow is a random span of numbers that are not large.
func narrow(r *rand.Rand) api.Span {
	d := 1 + r.Intn(8)
	lo := r.Intn(61) - 30
	return parts(lo, lo+r.Intn(12)*r.Intn(2), d)
}

func bigs(p []api.Rat) []*big.Rat {
	var l []*big.Rat
	for _, c := range p {
		l = append(l, toBig(c))
	}
	return l
}

func TestHornerAgainstLibrary(t *testing.T) {
	r := rand.New(rand.NewSource(5))
	for i := range 10000 {
		p, x, g := polynomial(r), narrow(r), grid(r)
		if i%4 == 0 {
			x = spanOf(r)
		}
		want := api.Span{}
		y, e := hornerOf(bigs(p), x, g)
		if e == api.OK {
			want, e = y.span()
		}
		kept := slices.Clone(p)
		got, err := Horner(p, x, g)
		check(t, answer{"Horner", got, err, want, e})
		if !slices.Equal(p, kept) {
			t.Fatal("Horner changes its argument")
		}
	}
}

// slanting is a polynomial whose slope is 1/10^6 to 1 + 1/10^6 from -500000 to 500000.
func slanting(constant api.Rat) []api.Rat {
	return []api.Rat{constant, q(500001, 1000000), q(1, 2000000)}
}

func TestNewton(t *testing.T) {
	most := api.MaxNum
	root2 := whole(-2, 0, 1)
	for _, c := range []struct {
		name string
		p    []api.Rat
		x    api.Span
		g    int
		want api.Span
		kind int
		err  api.Errno
	}{
		{"one root", root2, from(1, 2), 100, parts(137, 144, 100), 2, api.OK},
		{"one root, rounded", root2, from(1, 2), 10, parts(13, 15, 10), 2, api.OK},
		{"one root, rounded to an end", root2, from(1, 2), 1, from(1, 2), 1, api.OK},
		{"one negative root", root2, from(-2, -1), 100, parts(-144, -137, 100), 2, api.OK},
		{"slope around nought", root2, from(-1, 2), 100, from(-1, 2), 0, api.OK},
		{"slope from nought", root2, from(0, 2), 100, from(0, 2), 0, api.OK},
		{"slope to nought", root2, from(-2, 0), 100, from(-2, 0), 0, api.OK},
		{"no root", root2, from(2, 3), 100, api.Span{}, 3, api.OK},
		{"no root above", root2, from(-3, -2), 100, api.Span{}, 3, api.OK},
		{"no root in one number", root2, from(1, 1), 1000, api.Span{}, 3, api.OK},
		{"root in a part", root2, parts(1, 3, 2), 100, parts(133, 150, 100), 1, api.OK},
		{"constant", whole(7), from(0, 1), 1, from(0, 1), 0, api.OK},
		{"zero", nil, from(0, 1), 1, api.Span{}, 0, api.ErrNone},
		{"line", whole(-1, 3), from(0, 1), 9, parts(3, 3, 9), 2, api.OK},
		{"line, rounded", whole(-1, 3), from(0, 1), 10, parts(3, 4, 10), 2, api.OK},
		{"falling line", whole(1, -3), from(0, 1), 10, parts(3, 4, 10), 2, api.OK},
		{"line through the low end", whole(0, 1), from(0, 1), 10, from(0, 0), 1, api.OK},
		{"line through the high end", whole(-1, 1), from(0, 1), 10, from(1, 1), 1, api.OK},
		{"line beyond the low end", whole(1, 1), from(0, 1), 10, api.Span{}, 3, api.OK},
		{"line just above the low end", whole(-1, 10), from(0, 1), 10, parts(1, 1, 10), 2, api.OK},
		{"line just below the high end", whole(-9, 10), from(0, 1), 10, parts(9, 9, 10), 2, api.OK},
		{"root at the one number", whole(-5, 1), from(5, 5), 1, from(5, 5), 1, api.OK},
		{"root at the one number beside the grid", whole(-1, 3), parts(1, 1, 3), 10, parts(1, 1, 3), 1, api.OK},
		{"ends beside the grid", root2, parts(4, 6, 3), 1, parts(4, 6, 3), 1, api.OK},
		{"three roots", whole(0, -1, 0, 1), from(-2, 2), 10, from(-2, 2), 0, api.OK},
		// Coefficients of the derivative that are no numbers.
		{"slope with a long coefficient", []api.Rat{q(0, 1), q(1, 1), q(999999999999, 999999999989)}, from(0, 1), 1, from(0, 1), 1, api.OK},
		{"large slope", whole(0, 0, most), from(1, 2), 1, api.Span{}, 0, api.ErrLarge},
		{"large slope at nought", whole(0, 0, most), from(0, 0), 1, api.Span{}, 0, api.ErrLarge},
		{"large slope in between", whole(0, -most, most/2, 1), from(most, most), 1, api.Span{}, 0, api.ErrLarge},
		{"large value", whole(0, 0, 0, 0, 0, 0, 0, 0, 0, 0, 0, 1), from(9, 10), 1000, api.Span{}, 3, api.OK},
		{"middle that is no number", whole(-1, 1), api.Span{Lo: q(most-1, most), Hi: q(most, most-1)}, 1, from(1, 1), 2, api.OK},
		// The step ends at what is no number: beyond x, beyond one end of it, and within it.
		{"far from x", []api.Rat{q(1, 3), q(1, 1000000)}, from(most-1, most), api.MaxGrid, api.Span{}, 3, api.OK},
		{"partly far", slanting(q(600001, 3)), from(-500000, 500000), api.MaxGrid, api.Span{Lo: q(-500000, 1), Hi: q(-200000133333, 1000000)}, 1, api.OK},
		{"within", []api.Rat{q(-6000001, 3), q(1, 1)}, from(0, 4000000), api.MaxGrid, api.Span{}, 0, api.ErrLarge},
		{"within, on a wider grid", []api.Rat{q(-6000001, 3), q(1, 1)}, from(0, 4000000), 10, parts(20000003, 20000004, 10), 2, api.OK},
		{"partly within", slanting(q(-6000001, 3000000)), from(-500000, 500000), api.MaxGrid, api.Span{Lo: q(999999, 500000), Hi: q(500000, 1)}, 1, api.OK},
		{"grid", root2, from(1, 2), 0, api.Span{}, 0, api.ErrArg},
		{"grid ahead of zero", nil, from(1, 2), 0, api.Span{}, 0, api.ErrArg},
		{"span ahead of zero", nil, from(2, 1), 1, api.Span{}, 0, api.ErrArg},
	} {
		x, kind, e := Newton(c.p, c.x, c.g)
		check(t, answer{"Newton: " + c.name, x, e, c.want, c.err})
		if kind != c.kind {
			t.Errorf("Newton: %s: %d, not %d", c.name, kind, c.kind)
		}
	}
}

// newtonOf is Newton's step with the numbers of the library.
func newtonOf(p []*big.Rat, x api.Span, g int) (api.Span, int, api.Errno) {
	if len(p) == 0 {
		return api.Span{}, 0, api.ErrNone
	}
	var slope []*big.Rat
	for i := 1; i < len(p); i++ {
		slope = append(slope, new(big.Rat).Mul(p[i], big.NewRat(int64(i), 1)))
	}
	d, e := hornerOf(slope, x, g)
	if e != api.OK {
		return api.Span{}, 0, e
	}
	if d.holds(new(big.Rat)) {
		return x, 0, api.OK
	}
	m := new(big.Rat).Add(toBig(x.Lo), toBig(x.Hi))
	m.Mul(m, big.NewRat(1, 2))
	f := new(big.Rat)
	for i := len(p) - 1; i >= 0; i-- {
		f.Mul(f, m)
		f.Add(f, p[i])
	}
	n := each(plain{m, m}, each(plain{f, f}, d, (*big.Rat).Quo), (*big.Rat).Sub).outward(g)
	a := toPlain(x)
	if n.hi.Cmp(a.lo) < 0 || n.lo.Cmp(a.hi) > 0 {
		return api.Span{}, 3, api.OK
	}
	if n.lo.Cmp(a.lo) > 0 && n.hi.Cmp(a.hi) < 0 {
		y, e := n.span()
		if e != api.OK {
			return y, 0, e
		}
		return y, 2, api.OK
	}
	if n.lo.Cmp(a.lo) < 0 {
		n.lo = a.lo
	}
	if n.hi.Cmp(a.hi) > 0 {
		n.hi = a.hi
	}
	y, e := n.span()
	if e != api.OK {
		return y, 0, e
	}
	return y, 1, api.OK
}

// through returns p less its value at a random number of x, so that it has a root in x, if that is a polynomial.
func through(r *rand.Rand, p []api.Rat, x api.Span) []api.Rat {
	at := big.NewRat(int64(r.Intn(5)), 4)
	v := new(big.Rat).Sub(toBig(x.Hi), toBig(x.Lo))
	v.Mul(v, at)
	v.Add(v, toBig(x.Lo))
	n, e := fromBig(v)
	if e != api.OK {
		return p
	}
	value, e := poly.Eval(p, n)
	if e != api.OK {
		return p
	}
	if value.N == 0 {
		return p
	}
	moved, e := poly.Sub(p, []api.Rat{value})
	if e != api.OK || len(moved) == 0 {
		return p
	}
	return moved
}

func TestNewtonAgainstLibrary(t *testing.T) {
	r := rand.New(rand.NewSource(6))
	var kinds [4]int
	for i := range 6000 {
		p, x, g := polynomial(r), narrow(r), grid(r)
		if i%8 == 0 {
			x = spanOf(r)
		}
		if i%2 == 0 {
			p = through(r, p, x)
		}
		want, kind, e := newtonOf(bigs(p), x, g)
		kept := slices.Clone(p)
		got, n, err := Newton(p, x, g)
		check(t, answer{"Newton", got, err, want, e})
		if n != kind {
			t.Errorf("Newton of %v, %v, %d: %d, not %d", p, x, g, n, kind)
		}
		if !slices.Equal(p, kept) {
			t.Fatal("Newton changes its argument")
		}
		if e == api.OK {
			kinds[kind]++
			rootsHold(t, p, x, got, kind)
		}
	}
	for kind, n := range kinds {
		if n < 60 {
			t.Errorf("only %d samples of %d", n, kind)
		}
	}
}

// rootsHold asks for what Newton tells about the roots of p in x.
func rootsHold(t *testing.T, p []api.Rat, x, y api.Span, kind int) {
	t.Helper()
	n := rootsIn(t, p, x)
	switch {
	case kind == 3 && n != 0, kind == 2 && (n != 1 || rootsIn(t, p, y) != 1), kind == 1 && rootsIn(t, p, y) != n:
		t.Errorf("Newton of %v, %v: %v, %d with %d roots", p, x, y, kind, n)
	case kind == 0 && y != x:
		t.Errorf("Newton of %v, %v: %v, 0", p, x, y)
	}
}

func rootsIn(t *testing.T, p []api.Rat, x api.Span) int {
	t.Helper()
	n, e := root.Count(p, x.Lo, x.Hi)
	if e != api.OK {
		t.Fatalf("Count of %v: %v", p, e)
	}
	of, e := root.Of(x.Lo)
	if e != api.OK {
		t.Fatalf("Of %v: %v", x.Lo, e)
	}
	if s, _ := root.Sign(p, of); s == 0 {
		n++
	}
	return n
}

// TestHornerByOthers compares with Mul and Add themselves.
func TestHornerByOthers(t *testing.T) {
	r := rand.New(rand.NewSource(7))
	for range 3000 {
		p, x, g := polynomial(r), narrow(r), grid(r)
		want, err := from(0, 0), api.OK
		for i := len(p) - 1; i >= 0 && err == api.OK; i-- {
			if want, err = Mul(want, x, g); err == api.OK {
				want, err = Add(want, api.Span{Lo: p[i], Hi: p[i]}, g)
			}
		}
		got, e := Horner(p, x, g)
		check(t, answer{"Horner", got, e, want, err})
		if e == api.OK {
			at, _ := rat.Simplest(x.Lo, x.Hi)
			value, e := poly.Eval(p, at)
			if in, _ := In(got, value); e == api.OK && !in {
				t.Errorf("Horner of %v, %v: %v without %v", p, x, got, value)
			}
		}
	}
}
