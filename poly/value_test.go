package poly

import (
	"math/big"
	"math/rand"
	"testing"

	"isocline/api"
)

func TestEval(t *testing.T) {
	for _, c := range []struct {
		p       []api.Rat
		x, want api.Rat
		err     api.Errno
	}{
		{nil, q(5, 1), q(0, 1), api.OK},
		{whole(7), q(5, 1), q(7, 1), api.OK},
		{whole(7, 1, 1), q(0, 1), q(7, 1), api.OK},
		{whole(0, 1, 1), q(0, 1), q(0, 1), api.OK},
		{whole(-1, 0, 1), q(-3, 2), q(5, 4), api.OK},
		{whole(-1, 0, 4), q(1, 2), q(0, 1), api.OK},
		{power(12), q(-10, 1), q(api.MaxNum, 1), api.OK},
		{power(12), q(1, 10), q(1, api.MaxNum), api.OK},
		{power(12), q(11, 1), api.Rat{}, api.ErrLarge},
		{power(12), q(1, 11), api.Rat{}, api.ErrLarge},
		// The terms are above the limit, the value is not.
		{whole(0, -api.MaxNum, 1), q(api.MaxNum, 1), q(0, 1), api.OK},
		{append(whole(5), append(power(10), q(-api.MaxNum, 1))...), q(1, api.MaxNum), q(5, 1), api.OK},
	} {
		if v, e := Eval(c.p, c.x); v != c.want || e != c.err {
			t.Errorf("Eval of %v at %v: %v %v, not %v %v", c.p, c.x, v, e, c.want, c.err)
		}
	}
}

func TestCompose(t *testing.T) {
	most := q(api.MaxNum, 1)
	for _, c := range []struct {
		p, o, want []api.Rat
		err        api.Errno
	}{
		{nil, nil, nil, api.OK},
		{nil, power(12), nil, api.OK},
		{whole(3), power(12), whole(3), api.OK},
		{power(12), nil, nil, api.OK},
		{whole(3, 1, 1), nil, whole(3), api.OK},
		{whole(3, 1, 1), whole(2), whole(9), api.OK},
		{whole(-4, 0, 1), whole(2), nil, api.OK},
		{whole(-1, 0, 1), whole(1, 1), whole(0, 2, 1), api.OK},
		{whole(0, 1), whole(1, 2, 3), whole(1, 2, 3), api.OK},
		{whole(1, 2, 3), whole(0, 1), whole(1, 2, 3), api.OK},
		{power(3), power(4), power(12), api.OK},
		{power(2), power(7), nil, api.ErrLarge},
		{power(12), power(12), nil, api.ErrLarge},
		{power(2), []api.Rat{most}, nil, api.ErrLarge},
		{power(2), []api.Rat{q(0, 1), q(1000000, 1)}, []api.Rat{q(0, 1), q(0, 1), most}, api.OK},
		// The powers of the second one are above the limit, the result is not.
		{[]api.Rat{q(0, 1), q(-api.MaxNum, 1), q(1, 1)}, []api.Rat{most}, nil, api.OK},
		{[]api.Rat{q(1, 1), q(0, 1), q(1, api.MaxNum)}, []api.Rat{q(0, 1), most}, []api.Rat{q(1, 1), q(0, 1), most}, api.OK},
	} {
		p, e := Compose(c.p, c.o)
		samePoly(t, "Compose", p, e, c.want, c.err)
	}
}

func TestValuesAgainstLibrary(t *testing.T) {
	r := rand.New(rand.NewSource(3))
	for range 2000 {
		p, o, numbers := random(r, 6), random(r, 4), random(r, 0)
		composed := plain{}
		for i := len(p) - 1; i >= 0; i-- {
			composed = composed.mul(toPlain(o)).add(toPlain(p[i:i+1]).trim(), big.NewRat(1, 1))
		}
		want, err := composed.numbers()
		got, e := Compose(p, o)
		samePoly(t, "Compose", got, e, want, err)
		for _, x := range append(numbers, q(0, 1)) {
			w, err := numberOf(toPlain(p).value(toPlain([]api.Rat{x})[0]))
			if v, e := Eval(p, x); v != w || e != err {
				t.Fatalf("Eval of %v at %v: %v %v, not %v %v", p, x, v, e, w, err)
			}
		}
	}
}

func TestInterpolate(t *testing.T) {
	bad, most := q(2, 4), q(api.MaxNum, 1)
	row := func(n int, x api.Rat) []api.Rat {
		l := make([]api.Rat, n)
		for i := range l {
			l[i] = x
		}
		return l
	}
	for _, c := range []struct {
		name         string
		xs, ys, want []api.Rat
		err          api.Errno
	}{
		{"one point", whole(5), whole(7), whole(7), api.OK},
		{"one point at nought", whole(5), whole(0), nil, api.OK},
		{"line", whole(1, 3), whole(1, 7), whole(-2, 3), api.OK},
		{"lesser degree", whole(1, 2, 4), whole(3, 5, 9), whole(1, 2), api.OK},
		{"zero", whole(1, 2, 4), whole(0, 0, 0), nil, api.OK},
		{"square", whole(-1, 0, 1), whole(1, 0, 1), whole(0, 0, 1), api.OK},
		{"between", []api.Rat{q(1, 2), q(1, 3)}, whole(0, 1), whole(3, -6), api.OK},
		{"nought at the end of a list", whole(1, 0), whole(1, 0), whole(0, 1), api.OK},
		{"greatest degree", whole(-6, -5, -4, -3, -2, -1, 0, 1, 2, 3, 4, 5, 6), whole(36, 25, 16, 9, 4, 1, 0, 1, 4, 9, 16, 25, 36), whole(0, 0, 1), api.OK},
		{"large", []api.Rat{q(0, 1), q(1, api.MaxNum)}, whole(0, 2), nil, api.ErrLarge},
		{"large in between", []api.Rat{most, q(-api.MaxNum, 1), q(0, 1)}, []api.Rat{most, q(-api.MaxNum, 1), q(0, 1)}, whole(0, 1), api.OK},
		{"twice", whole(1, 2, 1), whole(1, 2, 1), nil, api.ErrTwice},
		{"twice at the end", whole(3, 0, 0), whole(1, 2, 1), nil, api.ErrTwice},
		{"no point", nil, []api.Rat{}, nil, api.ErrFit},
		{"lengths", whole(1, 2), whole(1), nil, api.ErrFit},
		{"lengths", nil, whole(1), nil, api.ErrFit},
		{"lengths ahead of twice", whole(1, 1), whole(1), nil, api.ErrFit},
		{"numbers ahead of lengths", []api.Rat{bad}, nil, nil, api.ErrArg},
		{"numbers ahead of lengths", nil, []api.Rat{bad}, nil, api.ErrArg},
		{"numbers ahead of twice", whole(1, 1), []api.Rat{bad, bad}, nil, api.ErrArg},
		{"zero value", whole(1), []api.Rat{{}}, nil, api.ErrArg},
		{"too many ahead of numbers", row(api.MaxDeg+2, bad), nil, nil, api.ErrLarge},
		{"too many in the second ahead of numbers", []api.Rat{bad}, row(api.MaxDeg+2, bad), nil, api.ErrLarge},
		{"too many ahead of lengths", nil, row(api.MaxDeg+2, most), nil, api.ErrLarge},
		{"too many ahead of twice", row(api.MaxDeg+2, most), row(api.MaxDeg+2, most), nil, api.ErrLarge},
		{"most ahead of twice", row(api.MaxDeg+1, most), row(api.MaxDeg+1, most), nil, api.ErrTwice},
	} {
		p, e := Interpolate(c.xs, c.ys)
		samePoly(t, "Interpolate: "+c.name, p, e, c.want, c.err)
	}
}

// TestInterpolateAgain takes the values of a polynomial and finds it.
func TestInterpolateAgain(t *testing.T) {
	r := rand.New(rand.NewSource(4))
	found := 0
	for range 2000 {
		p := random(r, api.MaxDeg)
		var xs, ys []api.Rat
		for i := range max(len(p), 1) {
			x := q(i*7-20, 1)
			if y, e := Eval(p, x); e == api.OK {
				xs, ys = append(xs, x), append(ys, y)
			}
		}
		if len(xs) < max(len(p), 1) {
			continue
		}
		found++
		r.Shuffle(len(xs), func(i, j int) { xs[i], xs[j], ys[i], ys[j] = xs[j], xs[i], ys[j], ys[i] })
		got, e := Interpolate(xs, ys)
		samePoly(t, "Interpolate", got, e, p, api.OK)
	}
	if found < 300 {
		t.Errorf("only %d were tried", found)
	}
}

// TestInterpolateAgainstLibrary takes points at random: the polynomial goes through them, or is large.
func TestInterpolateAgainstLibrary(t *testing.T) {
	r := rand.New(rand.NewSource(5))
	for range 2000 {
		n := r.Intn(6) + 1
		var xs, ys []api.Rat
		for len(xs) < n {
			x, y := random(r, 0), random(r, 0)
			if len(x) == 1 && len(y) == 1 && !hasTwice(append(xs, x[0])) {
				xs, ys = append(xs, x[0]), append(ys, y[0])
			}
		}
		sum, points := plain{}, toPlain(xs)
		for i, y := range toPlain(ys) {
			term := plain{y}
			for j, x := range points {
				if j != i {
					term = term.mul(plain{new(big.Rat).Neg(x), big.NewRat(1, 1)}).scale(new(big.Rat).Inv(new(big.Rat).Sub(points[i], x)))
				}
			}
			sum = sum.add(term, big.NewRat(1, 1))
		}
		want, err := sum.numbers()
		got, e := Interpolate(xs, ys)
		samePoly(t, "Interpolate", got, e, want, err)
	}
}
