package poly

import (
	"math/big"
	"math/rand"
	"testing"

	"isocline/api"
)

func TestSums(t *testing.T) {
	most, half := q(api.MaxNum, 1), q(1, 2)
	for _, c := range []struct {
		p, o, sum, difference []api.Rat
		errSum, errDifference api.Errno
	}{
		{nil, nil, nil, nil, api.OK, api.OK},
		{whole(1, 2), nil, whole(1, 2), whole(1, 2), api.OK, api.OK},
		{nil, whole(1, 2), whole(1, 2), whole(-1, -2), api.OK, api.OK},
		{whole(1, 2, 3), whole(4, 5), whole(5, 7, 3), whole(-3, -3, 3), api.OK, api.OK},
		{whole(1, 2, 3), whole(1, 2, 3), whole(2, 4, 6), nil, api.OK, api.OK},
		{whole(1, 2, 3), whole(1, -2, -3), whole(2), whole(0, 4, 6), api.OK, api.OK},
		{[]api.Rat{half}, []api.Rat{half}, whole(1), nil, api.OK, api.OK},
		{[]api.Rat{most}, whole(1), nil, whole(api.MaxNum - 1), api.ErrLarge, api.OK},
		{[]api.Rat{most, half}, []api.Rat{q(-1, 1), half}, []api.Rat{q(api.MaxNum-1, 1), q(1, 1)}, nil, api.OK, api.ErrLarge},
		{[]api.Rat{q(1, api.MaxNum)}, []api.Rat{q(1, api.MaxNum-1)}, nil, nil, api.ErrLarge, api.ErrLarge},
		{power(api.MaxDeg), power(api.MaxDeg), whole(0, 0, 0, 0, 0, 0, 0, 0, 0, 0, 0, 0, 2), nil, api.OK, api.OK},
	} {
		sum, e := Add(c.p, c.o)
		samePoly(t, "Add", sum, e, c.sum, c.errSum)
		difference, e := Sub(c.p, c.o)
		samePoly(t, "Sub", difference, e, c.difference, c.errDifference)
	}
}

func TestMul(t *testing.T) {
	most := q(api.MaxNum, 1)
	for _, c := range []struct {
		p, o, want []api.Rat
		err        api.Errno
	}{
		{nil, nil, nil, api.OK},
		{nil, power(api.MaxDeg), nil, api.OK},
		{[]api.Rat{q(2, 3)}, []api.Rat{q(3, 2)}, whole(1), api.OK},
		{whole(-1, 1), whole(1, 1), whole(-1, 0, 1), api.OK},
		{power(5), power(7), power(12), api.OK},
		{power(6), power(7), nil, api.ErrLarge},
		{power(12), power(12), nil, api.ErrLarge},
		{[]api.Rat{most}, whole(2), nil, api.ErrLarge},
		{[]api.Rat{most, most}, []api.Rat{most, q(-api.MaxNum, 1)}, nil, api.ErrLarge},
		{[]api.Rat{most, most}, []api.Rat{q(1, api.MaxNum)}, whole(1, 1), api.OK},
		// The sum for t^7 is above the limit in between, or its negative is.
		{whole(1000000, 1000000, 0, -1000000), whole(0, 0, 0, 0, 1000000, 0, 1000000, 1000000),
			whole(0, 0, 0, 0, api.MaxNum, api.MaxNum, api.MaxNum, api.MaxNum, api.MaxNum, -api.MaxNum, -api.MaxNum), api.OK},
		{whole(-1000000, 1000000, 0, 1000000), whole(0, 0, 0, 0, 1000000, 0, 1000000, 1000000),
			whole(0, 0, 0, 0, -api.MaxNum, api.MaxNum, -api.MaxNum, api.MaxNum, api.MaxNum, api.MaxNum, api.MaxNum), api.OK},
	} {
		p, e := Mul(c.p, c.o)
		samePoly(t, "Mul", p, e, c.want, c.err)
	}
}

func TestArithmeticAgainstLibrary(t *testing.T) {
	r := rand.New(rand.NewSource(1))
	one, minus := big.NewRat(1, 1), big.NewRat(-1, 1)
	for range 3000 {
		p, o := random(r, 8), random(r, 8)
		same := func(name string, f func(p, o []api.Rat) ([]api.Rat, api.Errno), want plain) {
			t.Helper()
			w, err := want.numbers()
			got, e := f(p, o)
			samePoly(t, name, got, e, w, err)
		}
		same("Add", Add, toPlain(p).add(toPlain(o), one))
		same("Sub", Sub, toPlain(p).add(toPlain(o), minus))
		same("Mul", Mul, toPlain(p).mul(toPlain(o)))
	}
}

func TestDerive(t *testing.T) {
	for _, c := range []struct {
		p, want []api.Rat
		err     api.Errno
	}{
		{nil, nil, api.OK},
		{whole(5), nil, api.OK},
		{whole(5, 4), whole(4), api.OK},
		{[]api.Rat{q(1, 1), q(0, 1), q(3, 4), q(-2, 9)}, []api.Rat{q(0, 1), q(3, 2), q(-2, 3)}, api.OK},
		{[]api.Rat{q(0, 1), q(api.MaxNum, 1)}, whole(api.MaxNum), api.OK},
		{[]api.Rat{q(0, 1), q(0, 1), q(api.MaxNum, 1)}, nil, api.ErrLarge},
		{[]api.Rat{q(0, 1), q(0, 1), q(1, api.MaxNum)}, []api.Rat{q(0, 1), q(1, api.MaxNum/2)}, api.OK},
	} {
		p, e := Derive(c.p)
		samePoly(t, "Derive", p, e, c.want, c.err)
	}
	p, e := Derive(power(api.MaxDeg))
	if len(p) != api.MaxDeg || p[api.MaxDeg-1] != q(api.MaxDeg, 1) || e != api.OK {
		t.Errorf("Derive of the greatest degree: %v %v", p, e)
	}
}

func TestIntegral(t *testing.T) {
	for _, c := range []struct {
		p, want []api.Rat
		err     api.Errno
	}{
		{nil, nil, api.OK},
		{whole(5), whole(0, 5), api.OK},
		{[]api.Rat{q(0, 1), q(0, 1), q(1, 2)}, []api.Rat{q(0, 1), q(0, 1), q(0, 1), q(1, 6)}, api.OK},
		{[]api.Rat{q(1, api.MaxNum)}, []api.Rat{q(0, 1), q(1, api.MaxNum)}, api.OK},
		{[]api.Rat{q(0, 1), q(1, api.MaxNum)}, nil, api.ErrLarge},
		{[]api.Rat{q(0, 1), q(api.MaxNum, 1)}, []api.Rat{q(0, 1), q(0, 1), q(api.MaxNum/2, 1)}, api.OK},
		{power(api.MaxDeg), nil, api.ErrLarge},
	} {
		p, e := Integral(c.p)
		samePoly(t, "Integral", p, e, c.want, c.err)
	}
	r := rand.New(rand.NewSource(2))
	for range 500 {
		p := random(r, api.MaxDeg-1)
		i, e := Integral(p)
		if e != api.OK {
			continue
		}
		d, e := Derive(i)
		samePoly(t, "Derive of Integral", d, e, p, api.OK)
	}
}

func TestPrint(t *testing.T) {
	for _, c := range []struct {
		p    []api.Rat
		want string
	}{
		{nil, "0"},
		{whole(1), "1"},
		{whole(-1), "-1"},
		{[]api.Rat{q(-3, 2)}, "-3/2"},
		{whole(0, 1), "t"},
		{whole(0, -1), "-t"},
		{whole(0, 2), "2*t"},
		{whole(-1, 1), "t - 1"},
		{whole(1, -1), "-t + 1"},
		{[]api.Rat{q(1, 1), q(0, 1), q(-3, 2)}, "-3/2*t^2 + 1"},
		{[]api.Rat{q(-1, 3), q(1, 1), q(-1, 1), q(1, 5)}, "1/5*t^3 - t^2 + t - 1/3"},
		{power(10), "t^10"},
		{append(whole(0, -1, 0, 0, 0, 0, 0, 0, 0, 0, 0, 7), q(-1, 1)), "-t^12 + 7*t^11 - t"},
		{[]api.Rat{q(api.MaxNum, 1), q(-1, api.MaxNum)}, "-1/1000000000000*t + 1000000000000"},
	} {
		if s, e := Print(c.p); s != c.want || e != api.OK {
			t.Errorf("Print of %v: %q %v, not %q", c.p, s, e, c.want)
		}
	}
}
