package unit

import (
	"math"
	"math/big"
	"math/rand"
	"slices"
	"testing"

	"isocline/api"
)

func TestValidate(t *testing.T) {
	for _, c := range []struct {
		u    api.Unit
		want api.Errno
	}{
		{of1(), api.OK},
		{of1(1, -1, 2, -2, 3, -3, 4), api.OK},
		{of1(9, 9, 9, 9, 9, 9, 9), api.OK},
		{of1(-9, -9, -9, -9, -9, -9, -9), api.OK},
		{withF(q(api.MaxNum, 1)), api.OK},
		{withF(q(1, api.MaxNum)), api.OK},
		{withF(q(999999999989, 999999999961)), api.OK},
		{api.Unit{}, api.ErrArg},
		{withF(q(0, 1)), api.ErrArg},
		{withF(q(-1, 1)), api.ErrArg},
		{withF(q(-1, 2)), api.ErrArg},
		{withF(q(-1, -1)), api.ErrArg},
		{withF(q(2, 4)), api.ErrArg},
		{withF(q(1, 0)), api.ErrArg},
		{withF(q(api.MaxNum+1, 1)), api.ErrArg},
		{withF(q(1, api.MaxNum+1)), api.ErrArg},
		{withF(q(math.MaxInt, math.MinInt)), api.ErrArg},
		{withF(q(0, 1), 10), api.ErrArg},
	} {
		if e := Validate(c.u); e != c.want {
			t.Errorf("Validate of %v: %v, not %v", c.u, e, c.want)
		}
	}
	for i := range 7 {
		for _, n := range []int{10, -10, math.MinInt, math.MaxInt} {
			u := of1(1, 2, 3, 4, 5, 6, 7)
			u.E[i] = n
			if e := Validate(u); e != api.ErrArg {
				t.Errorf("Validate of %v: %v", u, e)
			}
		}
	}
}

func TestProducts(t *testing.T) {
	type unit = answer[api.Unit]
	mul := func(name string, u, v, want api.Unit, err api.Errno) unit {
		x, e := Mul(u, v)
		return unit{"Mul: " + name, x, e, want, err}
	}
	div := func(name string, u, v, want api.Unit, err api.Errno) unit {
		x, e := Div(u, v)
		return unit{"Div: " + name, x, e, want, err}
	}
	power := func(name string, u api.Unit, n int, want api.Unit, err api.Errno) unit {
		x, e := Power(u, n)
		return unit{"Power: " + name, x, e, want, err}
	}
	none := api.Unit{}
	most, least := withF(q(api.MaxNum, 1)), withF(q(1, api.MaxNum))
	check(t,
		mul("plain", withF(q(3, 2), 1, 0, -2), withF(q(4, 9), 1, 1, 1), withF(q(2, 3), 2, 1, -1), api.OK),
		mul("greatest exponents", of1(9, -9, 4, 0, 0, 0, -5), of1(0, 0, 5, 0, 0, 0, -4), of1(9, -9, 9, 0, 0, 0, -9), api.OK),
		mul("too great an exponent", of1(0, 0, 0, 0, 0, 0, 9), of1(0, 0, 0, 0, 0, 0, 1), none, api.ErrLarge),
		mul("too small an exponent", of1(-9), of1(-1), none, api.ErrLarge),
		mul("greatest factor", most, of1(), most, api.OK),
		mul("too great a factor", most, withF(q(2, 1)), none, api.ErrLarge),
		mul("too fine a factor", least, withF(q(1, 2)), none, api.ErrLarge),
		mul("one after all", most, least, of1(), api.OK),
		div("plain", withF(q(3, 2), 1, 0, -2), withF(q(9, 4), 1, 1, 1), withF(q(2, 3), 0, -1, -3), api.OK),
		div("itself", withF(q(3, 2), 9, -9), withF(q(3, 2), 9, -9), of1(), api.OK),
		div("greatest exponent", of1(4), of1(-5), of1(9), api.OK),
		div("too great an exponent", of1(5), of1(-5), none, api.ErrLarge),
		div("too small an exponent", of1(0, -5), of1(0, 5), none, api.ErrLarge),
		div("too great a factor", most, withF(q(1, 2)), none, api.ErrLarge),
		div("too fine a factor", least, withF(q(2, 1)), none, api.ErrLarge),
		power("square", withF(q(2, 3), 1, -2), 2, withF(q(4, 9), 2, -4), api.OK),
		power("first", withF(q(2, 3), 1, -2), 1, withF(q(2, 3), 1, -2), api.OK),
		power("zeroth", withF(q(api.MaxNum, 7), 9, -9), 0, of1(), api.OK),
		power("turned round", withF(q(2, 3), 1, -2), -1, withF(q(3, 2), -1, 2), api.OK),
		power("below nought", withF(q(2, 3), 1, -2), -3, withF(q(27, 8), -3, 6), api.OK),
		power("ninth", withF(q(2, 1), 1, -1), 9, withF(q(512, 1), 9, -9), api.OK),
		power("ninth below nought", withF(q(2, 1), 1, -1), -9, withF(q(1, 512), -9, 9), api.OK),
		power("greatest exponent", of1(3), 3, of1(9), api.OK),
		power("too great an exponent", of1(5), 2, none, api.ErrLarge),
		power("too small an exponent", of1(0, 0, 0, 5), -2, none, api.ErrLarge),
		power("greatest factor", withF(q(10000, 1)), 3, most, api.OK),
		power("too great a factor", withF(q(10001, 1)), 3, none, api.ErrLarge),
		power("too fine a factor", withF(q(10001, 1)), -3, none, api.ErrLarge),
		power("too great", of1(), 10, none, api.ErrArg),
		power("too small", of1(), -10, none, api.ErrArg),
		power("far too small", of1(), math.MinInt, none, api.ErrArg),
		power("far too great, ahead of a large exponent", of1(9), math.MaxInt, none, api.ErrArg),
	)
}

func TestProductsAgainstLibrary(t *testing.T) {
	r := rand.New(rand.NewSource(20))
	for range 20000 {
		u, v, n := random(r, 6), random(r, 6), r.Intn(19)-9
		if r.Intn(2) == 0 {
			u, n = random(r, 2), r.Intn(5)-2
		}
		want, err := toPlain(u).times(toPlain(v), 1).unit()
		got, e := Mul(u, v)
		check(t, answer[api.Unit]{"Mul", got, e, want, err})
		want, err = toPlain(u).times(toPlain(v), -1).unit()
		got, e = Div(u, v)
		check(t, answer[api.Unit]{"Div", got, e, want, err})
		want, err = toPlain(of1()).times(toPlain(u), n).unit()
		got, e = Power(u, n)
		check(t, answer[api.Unit]{"Power", got, e, want, err})
	}
}

func TestLike(t *testing.T) {
	type truth = answer[bool]
	like := func(name string, u, v api.Unit, want bool, err api.Errno) truth {
		x, e := Like(u, v)
		return truth{name, x, e, want, err}
	}
	check(t,
		like("equal", of1(1, 2), of1(1, 2), true, api.OK),
		like("other factor", of1(1, 2), withF(q(1, 7), 1, 2), true, api.OK),
		like("without dimension", of1(), withF(q(7, 1)), true, api.OK),
		like("turned round", of1(1), of1(-1), false, api.OK),
		like("bad first", api.Unit{}, of1(), false, api.ErrArg),
		like("bad second", of1(), withF(q(-1, 1)), false, api.ErrArg),
		like("bad and unlike", of1(10), of1(10), false, api.ErrArg),
	)
	for i := range 7 {
		u := of1(1, 2, 3, 4, 5, 6, 7)
		v := u
		v.E[i]--
		check(t, like("one differs", u, v, false, api.OK))
	}
}

func TestConvert(t *testing.T) {
	type number = answer[api.Rat]
	convert := func(name string, x api.Rat, from, to api.Unit, want api.Rat, err api.Errno) number {
		y, e := Convert(x, from, to)
		return number{name, y, e, want, err}
	}
	km, mm := withF(q(1000, 1), 1), withF(q(1, 1000), 1)
	most := q(api.MaxNum, 1)
	check(t,
		convert("km/h", q(36, 1), withF(q(5, 18), 1, 0, -1), of1(1, 0, -1), q(10, 1), api.OK),
		convert("m/s", q(10, 1), of1(1, 0, -1), withF(q(5, 18), 1, 0, -1), q(36, 1), api.OK),
		convert("down", q(-3, 2), km, mm, q(-1500000, 1), api.OK),
		convert("up", q(-3, 2), mm, km, q(-3, 2000000), api.OK),
		convert("nought", q(0, 1), km, mm, q(0, 1), api.OK),
		convert("greatest", q(1000000, 1), km, mm, most, api.OK),
		convert("too great", q(1000001, 1), km, mm, api.Rat{}, api.ErrLarge),
		convert("too small", q(-1000001, 1), km, mm, api.Rat{}, api.ErrLarge),
		convert("finest", q(1, 1000000), mm, km, q(1, api.MaxNum), api.OK),
		convert("too fine", q(1, 1000001), mm, km, api.Rat{}, api.ErrLarge),
		convert("large in between", most, withF(most), withF(most), most, api.OK),
		convert("fine in between", q(1, api.MaxNum), withF(q(1, 7)), withF(q(1, 7)), q(1, api.MaxNum), api.OK),
		convert("large factor in between", q(1, api.MaxNum), withF(most), withF(q(1, api.MaxNum)), most, api.OK),
		convert("unlike", q(1, 1), of1(1), of1(2), api.Rat{}, api.ErrFit),
		convert("unlike ahead of large", most, withF(most, 1), withF(q(1, 1000), 2), api.Rat{}, api.ErrFit),
	)
}

func TestConvertAgainstLibrary(t *testing.T) {
	r := rand.New(rand.NewSource(21))
	for range 20000 {
		from, to, x := random(r, 9), random(r, 9), positive(r)
		if r.Intn(8) > 0 {
			to.E = from.E
		}
		if r.Intn(2) == 0 {
			x.N = -x.N
		}
		y := new(big.Rat).Mul(toBig(x), toBig(from.F))
		want, err := fromBig(y.Quo(y, toBig(to.F)))
		if from.E != to.E {
			want, err = api.Rat{}, api.ErrFit
		}
		got, e := Convert(x, from, to)
		check(t, answer[api.Rat]{"Convert", got, e, want, err})
	}
}

func TestScale(t *testing.T) {
	type number = answer[api.Rat]
	scale := func(name string, u api.Unit, by []api.Rat, want api.Rat, err api.Errno) number {
		x, e := Scale(u, by)
		return number{name, x, e, want, err}
	}
	// with is a list of ones with x at the place i.
	with := func(i int, x api.Rat) []api.Rat {
		l := slices.Repeat([]api.Rat{q(1, 1)}, 7)
		l[i] = x
		return l
	}
	most, bad := q(api.MaxNum, 1), q(2, 4)
	primes := []api.Rat{q(2, 1), q(3, 1), q(5, 1), q(7, 1), q(11, 1), q(13, 1), q(17, 1)}
	check(t,
		scale("plain", withF(q(1000, 1), 2, 1, -3), []api.Rat{q(2, 1), q(5, 1), q(1, 3), q(7, 1), q(7, 1), q(7, 1), q(7, 1)}, q(540, 1), api.OK),
		scale("each in its place", of1(1, 1, 1, 1, 1, 1, 1), primes, q(510510, 1), api.OK),
		scale("each in its place", of1(2, 1, 1, -1, 0, 0, 1), primes, q(1020, 7), api.OK),
		scale("factor is not asked", withF(q(3, 7)), primes, q(1, 1), api.OK),
		scale("ninth power", of1(0, 0, 9), with(2, q(2, 1)), q(512, 1), api.OK),
		scale("ninth power below nought", of1(0, 0, -9), with(2, q(2, 1)), q(1, 512), api.OK),
		scale("large in between", of1(9, 9), []api.Rat{most, q(1, api.MaxNum), most, most, most, most, most}, q(1, 1), api.OK),
		scale("large", of1(2), with(0, most), api.Rat{}, api.ErrLarge),
		scale("fine", of1(-2), with(0, most), api.Rat{}, api.ErrLarge),
		scale("nothing", of1(), nil, api.Rat{}, api.ErrFit),
		scale("six", of1(), primes[:6], api.Rat{}, api.ErrFit),
		scale("eight", of1(), append(slices.Clone(primes), q(1, 1)), api.Rat{}, api.ErrFit),
		scale("many", of1(), slices.Repeat(primes, 100), api.Rat{}, api.ErrFit),
		scale("nought", of1(), with(6, q(0, 1)), api.Rat{}, api.ErrArg),
		scale("below nought", of1(2), with(0, q(-1, 1)), api.Rat{}, api.ErrArg),
		scale("nought ahead of large", of1(9), []api.Rat{most, q(0, 1), most, most, most, most, most}, api.Rat{}, api.ErrArg),
		scale("lengths ahead of nought", of1(), []api.Rat{q(0, 1)}, api.Rat{}, api.ErrFit),
		scale("bad number", of1(), with(6, bad), api.Rat{}, api.ErrArg),
		scale("bad number ahead of lengths", of1(), append(slices.Clone(primes), bad), api.Rat{}, api.ErrArg),
		scale("bad number in a long list", of1(), append(slices.Repeat(primes, 100), bad), api.Rat{}, api.ErrArg),
		scale("bad unit ahead of lengths", api.Unit{}, nil, api.Rat{}, api.ErrArg),
	)
}

func TestScaleAgainstLibrary(t *testing.T) {
	r := rand.New(rand.NewSource(22))
	for range 5000 {
		u := random(r, 1+r.Intn(9))
		by := make([]api.Rat, 7)
		want := big.NewRat(1, 1)
		for i := range by {
			by[i] = positive(r)
			want = plain{f: want}.times(plain{f: toBig(by[i])}, u.E[i]).f
		}
		kept := slices.Clone(by)
		x, err := fromBig(want)
		got, e := Scale(u, by)
		check(t, answer[api.Rat]{"Scale", got, e, x, err})
		if !slices.Equal(by, kept) {
			t.Fatal("an argument was changed")
		}
	}
}
