package span

import (
	"math"
	"math/big"
	"math/rand"
	"testing"

	"isocline/api"
	"isocline/rat"
)

func TestValidate(t *testing.T) {
	for _, c := range []struct {
		x    api.Span
		want api.Errno
	}{
		{from(0, 0), api.OK},
		{from(-1, 2), api.OK},
		{from(-api.MaxNum, api.MaxNum), api.OK},
		{api.Span{Lo: q(1, 3), Hi: q(1, 2)}, api.OK},
		{api.Span{Lo: q(-1, 2), Hi: q(-1, 3)}, api.OK},
		{api.Span{Lo: q(api.MaxNum-2, api.MaxNum-1), Hi: q(api.MaxNum-1, api.MaxNum)}, api.OK},
		{api.Span{Lo: q(api.MaxNum-1, api.MaxNum), Hi: q(api.MaxNum-2, api.MaxNum-1)}, api.ErrArg},
		{from(1, 0), api.ErrArg},
		{api.Span{Lo: q(1, 2), Hi: q(1, 3)}, api.ErrArg},
		{api.Span{}, api.ErrArg},
		{api.Span{Lo: q(0, 1)}, api.ErrArg},
		{api.Span{Hi: q(0, 1)}, api.ErrArg},
		{api.Span{Lo: q(2, 4), Hi: q(1, 1)}, api.ErrArg},
		{api.Span{Lo: q(0, 1), Hi: q(2, 4)}, api.ErrArg},
		{from(0, api.MaxNum+1), api.ErrArg},
		{from(-api.MaxNum-1, 0), api.ErrArg},
		{api.Span{Lo: q(math.MinInt, math.MinInt), Hi: q(math.MaxInt, math.MaxInt)}, api.ErrArg},
	} {
		if e := Validate(c.x); e != c.want {
			t.Errorf("Validate of %v: %v, not %v", c.x, e, c.want)
		}
	}
}

func TestOut(t *testing.T) {
	for _, c := range []struct {
		x    api.Span
		g    int
		want api.Span
		err  api.Errno
	}{
		{parts(1, 2, 3), 1, from(0, 1), api.OK},
		{parts(1, 2, 3), 10, parts(3, 7, 10), api.OK},
		{parts(-2, -1, 3), 10, parts(-7, -3, 10), api.OK},
		{parts(1, 2, 3), 3, parts(1, 2, 3), api.OK},
		{parts(1, 3, 4), 2, from(0, 1), api.OK},
		{from(-5, -5), api.MaxGrid, from(-5, -5), api.OK},
		{parts(-1, 1, api.MaxNum), 1, from(-1, 1), api.OK},
		{parts(-1, 1, api.MaxNum), api.MaxGrid, parts(-1, 1, api.MaxGrid), api.OK},
		{from(-api.MaxNum, api.MaxNum), api.MaxGrid, from(-api.MaxNum, api.MaxNum), api.OK},
		{api.Span{Lo: q(0, 1), Hi: q(api.MaxNum, 3)}, 1, from(0, 333333333334), api.OK},
		{api.Span{Lo: q(0, 1), Hi: q(api.MaxNum, 3)}, 2, api.Span{Lo: q(0, 1), Hi: q(666666666667, 2)}, api.OK},
		// Multiples with a numerator that is not representable.
		{api.Span{Lo: q(0, 1), Hi: q(api.MaxNum, 3)}, 7, api.Span{}, api.ErrLarge},
		{api.Span{Lo: q(-api.MaxNum, 3), Hi: q(0, 1)}, 7, api.Span{}, api.ErrLarge},
		{from(0, 1), 0, api.Span{}, api.ErrArg},
		{from(0, 1), -1, api.Span{}, api.ErrArg},
		{from(0, 1), api.MaxGrid + 1, api.Span{}, api.ErrArg},
		{from(1, 0), 1, api.Span{}, api.ErrArg},
	} {
		x, e := Out(c.x, c.g)
		check(t, answer{"Out", x, e, c.want, c.err})
	}
}

// operation is a function of two spans and a grid.
type operation func(x, y api.Span, g int) (api.Span, api.Errno)

func TestOperations(t *testing.T) {
	most := api.MaxNum
	for _, c := range []struct {
		name string
		of   operation
		x, y api.Span
		g    int
		want api.Span
		err  api.Errno
	}{
		{"sum", Add, from(-1, 2), from(3, 4), 1, from(2, 6), api.OK},
		{"rounded sum", Add, parts(1, 2, 3), parts(1, 1, 2), 10, parts(8, 12, 10), api.OK},
		{"rounded once", Add, parts(1, 1, 2), parts(1, 1, 2), 1, from(1, 1), api.OK},
		{"large sum", Add, from(0, most), from(0, 1), 1, api.Span{}, api.ErrLarge},
		{"large low sum", Add, from(-most, 0), from(-1, 0), 1, api.Span{}, api.ErrLarge},
		{"sum with a long denominator", Add, parts(1, 1, 999999999989), parts(1, 1, 999999999961), 1000, parts(0, 1, 1000), api.OK},
		{"difference", Sub, from(-1, 2), from(3, 4), 1, from(-5, -1), api.OK},
		{"rounded difference", Sub, parts(1, 2, 3), parts(1, 1, 2), 10, parts(-2, 2, 10), api.OK},
		{"from itself", Sub, from(1, 3), from(1, 3), 1, from(-2, 2), api.OK},
		{"large difference", Sub, from(0, most), from(-1, 0), 1, api.Span{}, api.ErrLarge},
		{"product", Mul, from(-1, 2), from(3, 4), 1, from(-4, 8), api.OK},
		{"product below nought", Mul, from(-3, -2), from(4, 5), 1, from(-15, -8), api.OK},
		{"both below nought", Mul, from(-3, -2), from(-5, -4), 1, from(8, 15), api.OK},
		{"both around nought", Mul, from(-3, 2), from(-5, 4), 1, from(-12, 15), api.OK},
		{"with itself", Mul, from(-3, 2), from(-3, 2), 1, from(-6, 9), api.OK},
		{"with nought", Mul, from(0, 0), from(-most, most), 7, from(0, 0), api.OK},
		{"rounded product", Mul, parts(1, 2, 3), parts(1, 2, 3), 10, parts(1, 5, 10), api.OK},
		{"large product", Mul, from(0, most), from(1, 2), 1, api.Span{}, api.ErrLarge},
		{"fine product", Mul, parts(1, 1, most), parts(-1, 1, most), api.MaxGrid, parts(-1, 1, api.MaxGrid), api.OK},
		{"quotient", Div, from(-1, 2), from(3, 4), 12, parts(-4, 8, 12), api.OK},
		{"rounded quotient", Div, from(-1, 2), from(3, 4), 1, from(-1, 1), api.OK},
		{"quotient below nought", Div, from(2, 3), from(-4, -2), 4, parts(-6, -2, 4), api.OK},
		{"both below nought", Div, from(-3, -2), from(-4, -2), 4, parts(2, 6, 4), api.OK},
		{"nought by", Div, from(0, 0), from(-4, -2), 4, from(0, 0), api.OK},
		{"large quotient", Div, from(1, 1), parts(1, 2, most), 1, from(most/2, most), api.OK},
		{"too large a quotient", Div, from(2, 2), parts(1, 2, most), 1, api.Span{}, api.ErrLarge},
		{"by a span around nought", Div, from(1, 2), from(-1, 1), 1, api.Span{}, api.ErrNone},
		{"by a span from nought", Div, from(1, 2), from(0, 1), 1, api.Span{}, api.ErrNone},
		{"by a span to nought", Div, from(1, 2), from(-1, 0), 1, api.Span{}, api.ErrNone},
		{"by nought", Div, from(0, 0), from(0, 0), 1, api.Span{}, api.ErrNone},
		{"by nought ahead of a large one", Div, from(0, most), from(0, 1), 1, api.Span{}, api.ErrNone},
		{"grid ahead of nought", Div, from(0, 1), from(0, 1), 0, api.Span{}, api.ErrArg},
	} {
		x, e := c.of(c.x, c.y, c.g)
		check(t, answer{c.name, x, e, c.want, c.err})
	}
}

func TestOperationsAgainstLibrary(t *testing.T) {
	r := rand.New(rand.NewSource(1))
	zero := new(big.Rat)
	for range 20000 {
		x, y, g := spanOf(r), spanOf(r), grid(r)
		a, b := toPlain(x), toPlain(y)
		out, e := a.outward(g).span()
		got, err := Out(x, g)
		check(t, answer{"Out", got, err, out, e})
		for _, c := range []struct {
			name string
			of   operation
			by   func(z, a, b *big.Rat) *big.Rat
		}{{"Add", Add, (*big.Rat).Add}, {"Sub", Sub, (*big.Rat).Sub}, {"Mul", Mul, (*big.Rat).Mul}, {"Div", Div, (*big.Rat).Quo}} {
			want, e := api.Span{}, api.ErrNone
			if c.name != "Div" || !b.holds(zero) {
				want, e = each(a, b, c.by).outward(g).span()
			}
			got, err := c.of(x, y, g)
			check(t, answer{c.name, got, err, want, e})
		}
	}
}

func TestPower(t *testing.T) {
	for _, c := range []struct {
		x    api.Span
		n, g int
		want api.Span
		err  api.Errno
	}{
		{from(-1, 2), 0, 1, from(1, 1), api.OK},
		{from(0, 0), 0, 1, from(1, 1), api.OK},
		{from(0, 0), 1, 1, from(0, 0), api.OK},
		{from(0, 0), 12, 1, from(0, 0), api.OK},
		{from(-1, 2), 1, 1, from(-1, 2), api.OK},
		{from(-1, 2), 2, 1, from(0, 4), api.OK},
		{from(-3, 2), 2, 1, from(0, 9), api.OK},
		{from(-3, 0), 2, 1, from(0, 9), api.OK},
		{from(0, 3), 2, 1, from(0, 9), api.OK},
		{from(-3, -2), 2, 1, from(4, 9), api.OK},
		{from(2, 3), 2, 1, from(4, 9), api.OK},
		{from(-3, 2), 3, 1, from(-27, 8), api.OK},
		{from(-3, -2), 3, 1, from(-27, -8), api.OK},
		{from(-3, 2), 12, 1, from(0, 531441), api.OK},
		{from(-10, 10), 12, 1, from(0, api.MaxNum), api.OK},
		{parts(1, 2, 3), 2, 10, parts(1, 5, 10), api.OK},
		{parts(-1, 1, 3), 2, 10, parts(0, 2, 10), api.OK},
		{parts(1, 1, api.MaxNum), 12, api.MaxGrid, parts(0, 1, api.MaxGrid), api.OK},
		{from(-11, 0), 12, 1, api.Span{}, api.ErrLarge},
		{from(0, 11), 12, 1, api.Span{}, api.ErrLarge},
		{from(0, 1), -1, 1, api.Span{}, api.ErrArg},
		{from(0, 1), 13, 1, api.Span{}, api.ErrArg},
		{from(0, 1), math.MinInt, 1, api.Span{}, api.ErrArg},
		{from(0, 1), 2, 0, api.Span{}, api.ErrArg},
		{from(0, 1), 13, 0, api.Span{}, api.ErrArg},
		{from(0, api.MaxNum), 2, 0, api.Span{}, api.ErrArg},
		{from(1, 0), 2, 1, api.Span{}, api.ErrArg},
	} {
		x, e := Power(c.x, c.n, c.g)
		check(t, answer{"Power", x, e, c.want, c.err})
	}
}

func TestPowerAgainstLibrary(t *testing.T) {
	r := rand.New(rand.NewSource(2))
	for range 10000 {
		x, n, g := spanOf(r), r.Intn(13), grid(r)
		a := toPlain(x)
		points := []*big.Rat{a.lo, a.hi}
		if a.holds(new(big.Rat)) {
			points = append(points, new(big.Rat))
		}
		for i, v := range points {
			points[i] = big.NewRat(1, 1)
			for range n {
				points[i].Mul(points[i], v)
			}
			points[i] = new(big.Rat).Set(points[i])
		}
		want, e := hullOf(points...).outward(g).span()
		got, err := Power(x, n, g)
		check(t, answer{"Power", got, err, want, e})
	}
}

func TestMeetAndHull(t *testing.T) {
	for _, c := range []struct {
		x, y, meet api.Span
		some       bool
		hull       api.Span
	}{
		{from(0, 2), from(1, 3), from(1, 2), true, from(0, 3)},
		{from(0, 5), from(1, 3), from(1, 3), true, from(0, 5)},
		{from(1, 3), from(1, 3), from(1, 3), true, from(1, 3)},
		{from(0, 1), from(1, 3), from(1, 1), true, from(0, 3)},
		{from(0, 1), from(2, 3), api.Span{}, false, from(0, 3)},
		{from(1, 1), from(1, 1), from(1, 1), true, from(1, 1)},
		{from(1, 1), from(2, 2), api.Span{}, false, from(1, 2)},
		{parts(1, 2, 3), api.Span{Lo: q(1, 2), Hi: q(5, 7)}, api.Span{Lo: q(1, 2), Hi: q(2, 3)}, true, api.Span{Lo: q(1, 3), Hi: q(5, 7)}},
		{from(-api.MaxNum, 0), from(0, api.MaxNum), from(0, 0), true, from(-api.MaxNum, api.MaxNum)},
	} {
		for _, turned := range []bool{false, true} {
			x, y := c.x, c.y
			if turned {
				x, y = y, x
			}
			meet, some, e := Meet(x, y)
			check(t, answer{"Meet", meet, e, c.meet, api.OK})
			if some != c.some {
				t.Errorf("Meet of %v, %v: %v", x, y, some)
			}
			hull, e := Hull(x, y)
			check(t, answer{"Hull", hull, e, c.hull, api.OK})
		}
	}
}

// TestInAll asks for random numbers whether they are in spans, in their halves, in what is common to them and in their hulls.
func TestInAll(t *testing.T) {
	r := rand.New(rand.NewSource(3))
	for range 20000 {
		x, y, v := spanOf(r), spanOf(r), number(r)
		if r.Intn(4) == 0 {
			v = x.Lo
		}
		if r.Intn(4) == 0 {
			v = x.Hi
		}
		in, e := In(x, v)
		if want := toPlain(x).holds(toBig(v)); in != want || e != api.OK {
			t.Fatalf("In of %v, %v: %v %v", x, v, in, e)
		}
		inY, _ := In(y, v)
		meet, some, _ := Meet(x, y)
		both, _ := In(meet, v)
		hull, _ := Hull(x, y)
		inHull, _ := In(hull, v)
		if both != (in && inY) || both && !some || (in || inY) && !inHull {
			t.Fatalf("%v, %v: Meet %v, Hull %v, %v", x, y, meet, hull, v)
		}
		middle := new(big.Rat).Add(toBig(x.Lo), toBig(x.Hi))
		m, err := fromBig(middle.Mul(middle, big.NewRat(1, 2)))
		a, b, e := Halves(x)
		if e != err || e == api.OK && (a != api.Span{Lo: x.Lo, Hi: m} || b != api.Span{Lo: m, Hi: x.Hi}) || e != api.OK && (a != api.Span{} || b != api.Span{}) {
			t.Fatalf("Halves of %v: %v %v %v", x, a, b, e)
		}
	}
}

func TestIn(t *testing.T) {
	for _, c := range []struct {
		x    api.Span
		v    api.Rat
		want bool
		err  api.Errno
	}{
		{from(-1, 2), q(0, 1), true, api.OK},
		{from(-1, 2), q(-1, 1), true, api.OK},
		{from(-1, 2), q(2, 1), true, api.OK},
		{from(-1, 2), q(api.MaxNum, 499999999999), false, api.OK},
		{from(-1, 2), q(-api.MaxNum, api.MaxNum-1), false, api.OK},
		{from(3, 3), q(3, 1), true, api.OK},
		{from(-1, 2), q(2, 2), false, api.ErrArg},
		{from(2, -1), q(0, 1), false, api.ErrArg},
	} {
		if in, e := In(c.x, c.v); in != c.want || e != c.err {
			t.Errorf("In of %v, %v: %v %v, not %v %v", c.x, c.v, in, e, c.want, c.err)
		}
	}
}

func TestHalves(t *testing.T) {
	for _, c := range []struct {
		x, low, high api.Span
		err          api.Errno
	}{
		{from(1, 2), parts(2, 3, 2), parts(3, 4, 2), api.OK},
		{from(-1, 1), from(-1, 0), from(0, 1), api.OK},
		{from(5, 5), from(5, 5), from(5, 5), api.OK},
		{parts(1, 2, 3), parts(2, 3, 6), parts(3, 4, 6), api.OK},
		{from(0, api.MaxNum), from(0, api.MaxNum/2), from(api.MaxNum/2, api.MaxNum), api.OK},
		{from(api.MaxNum, api.MaxNum), from(api.MaxNum, api.MaxNum), from(api.MaxNum, api.MaxNum), api.OK},
		{parts(1, 3, api.MaxNum), parts(1, 2, api.MaxNum), parts(2, 3, api.MaxNum), api.OK},
		{parts(1, 2, api.MaxNum), api.Span{}, api.Span{}, api.ErrLarge},
		{from(api.MaxNum-1, api.MaxNum), api.Span{}, api.Span{}, api.ErrLarge},
		{from(1, 0), api.Span{}, api.Span{}, api.ErrArg},
	} {
		low, high, e := Halves(c.x)
		check(t, answer{"low half", low, e, c.low, c.err}, answer{"high half", high, e, c.high, c.err})
	}
}

// TestSample takes numbers of two spans: what comes of them is in the span that comes of these.
func TestSample(t *testing.T) {
	r := rand.New(rand.NewSource(4))
	inside := func(x api.Span) api.Rat {
		at := big.NewRat(int64(r.Intn(11)), 10)
		v := new(big.Rat).Sub(toBig(x.Hi), toBig(x.Lo))
		v.Mul(v, at)
		n, e := fromBig(v.Add(v, toBig(x.Lo)))
		if e != api.OK {
			return x.Lo
		}
		return n
	}
	for range 5000 {
		x, y, g := spanOf(r), spanOf(r), grid(r)
		v, w := inside(x), inside(y)
		for _, c := range []struct {
			name string
			of   operation
			by   func(x, y api.Rat) (api.Rat, api.Errno)
		}{{"Add", Add, rat.Add}, {"Sub", Sub, rat.Sub}, {"Mul", Mul, rat.Mul}, {"Div", Div, rat.Div}} {
			z, e := c.of(x, y, g)
			u, f := c.by(v, w)
			if in, _ := In(z, u); e == api.OK && f == api.OK && !in {
				t.Errorf("%s of %v and %v: %v without %v", c.name, x, y, z, u)
			}
		}
		n := r.Intn(13)
		z, e := Power(x, n, g)
		u, f := rat.Power(v, n)
		if in, _ := In(z, u); e == api.OK && f == api.OK && !in {
			t.Errorf("Power of %v, %d: %v without %v", x, n, z, u)
		}
	}
}
