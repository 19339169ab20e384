package rat

import (
	"math"
	"math/big"
	"math/rand"
	"testing"

	"isocline/api"
)

func q(n, d int) api.Rat { return api.Rat{N: n, D: d} }

// answer is a call and what it returns.
type answer struct {
	name string
	got  func() (api.Rat, api.Errno)
	want api.Rat
	err  api.Errno
}

func check(t *testing.T, l []answer) {
	t.Helper()
	for _, a := range l {
		if r, e := a.got(); r != a.want || e != a.err {
			t.Errorf("%s: %v %v, not %v %v", a.name, r, e, a.want, a.err)
		}
	}
}

func two(name string, f func(x, y api.Rat) (api.Rat, api.Errno), x, y, want api.Rat, err api.Errno) answer {
	return answer{name, func() (api.Rat, api.Errno) { return f(x, y) }, want, err}
}

func withInt(name string, f func(api.Rat, int) (api.Rat, api.Errno), x api.Rat, n int, want api.Rat, err api.Errno) answer {
	return answer{name, func() (api.Rat, api.Errno) { return f(x, n) }, want, err}
}

// toBig returns the number in the form of the library.
func toBig(x api.Rat) *big.Rat { return big.NewRat(int64(x.N), int64(x.D)) }

// fromBig returns the number that the library has, or ErrLarge.
func fromBig(x *big.Rat) (api.Rat, api.Errno) {
	most := big.NewInt(api.MaxNum)
	if x.Num().CmpAbs(most) > 0 || x.Denom().Cmp(most) > 0 {
		return api.Rat{}, api.ErrLarge
	}
	return q(int(x.Num().Int64()), int(x.Denom().Int64())), api.OK
}

// number returns a number with few or many digits.
func number(r *rand.Rand) api.Rat {
	limit := []int64{3, 20, 1000, 1000000, api.MaxNum}[r.Intn(5)]
	n, d := r.Int63n(2*limit+1)-limit, r.Int63n(limit)+1
	x, _ := fromBig(big.NewRat(n, d))
	return x
}

func TestValidate(t *testing.T) {
	for _, x := range []api.Rat{q(0, 1), q(1, 1), q(-3, 2), q(api.MaxNum, 1), q(-api.MaxNum, 1), q(1, api.MaxNum), q(api.MaxNum-1, api.MaxNum)} {
		if e := Validate(x); e != api.OK {
			t.Errorf("%v: %v", x, e)
		}
	}
	for _, x := range []api.Rat{{}, q(1, 0), q(0, 2), q(0, -1), q(2, 4), q(-2, 2), q(1, -2), q(3, 3), q(api.MaxNum+1, 1), q(-api.MaxNum-1, 1), q(1, api.MaxNum+1),
		q(api.MaxNum, api.MaxNum), q(math.MinInt, 1), q(1, math.MinInt), q(math.MinInt, math.MinInt), q(math.MaxInt, 1), q(1, math.MaxInt), q(0, math.MaxInt)} {
		if e := Validate(x); e != api.ErrArg {
			t.Errorf("%v: %v", x, e)
		}
	}
}

func TestMake(t *testing.T) {
	for _, c := range []struct {
		n, d int
		want api.Rat
		err  api.Errno
	}{
		{-6, 4, q(-3, 2), api.OK},
		{6, -4, q(-3, 2), api.OK},
		{-6, -4, q(3, 2), api.OK},
		{0, -7, q(0, 1), api.OK},
		{0, 0, api.Rat{}, api.ErrArg},
		{math.MinInt, 0, api.Rat{}, api.ErrArg},
		{math.MinInt, math.MinInt, q(1, 1), api.OK},
		{math.MinInt, math.MinInt / 2, q(2, 1), api.OK},
		{math.MinInt, 1 << 60, q(-8, 1), api.OK},
		{math.MaxInt, math.MaxInt, q(1, 1), api.OK},
		{math.MinInt, 1, api.Rat{}, api.ErrLarge},
		{1, math.MinInt, api.Rat{}, api.ErrLarge},
		{math.MinInt, math.MaxInt, api.Rat{}, api.ErrLarge},
		{2 * api.MaxNum, 2, q(api.MaxNum, 1), api.OK},
		{api.MaxNum + 1, 1, api.Rat{}, api.ErrLarge},
		{1, -api.MaxNum - 1, api.Rat{}, api.ErrLarge},
	} {
		if r, e := Make(c.n, c.d); r != c.want || e != c.err {
			t.Errorf("Make of %d, %d: %v %v", c.n, c.d, r, e)
		}
	}
}

func TestFour(t *testing.T) {
	bad := q(2, 4)
	big1 := q(api.MaxNum, 1)
	check(t, []answer{
		two("Add", Add, q(1, 3), q(1, 6), q(1, 2), api.OK),
		two("Add", Add, q(1, 3), q(-1, 3), q(0, 1), api.OK),
		two("Add", Add, big1, q(1, 1), api.Rat{}, api.ErrLarge),
		two("Add", Add, q(1, api.MaxNum), q(1, api.MaxNum-1), api.Rat{}, api.ErrLarge),
		two("Sub", Sub, q(1, 3), q(1, 2), q(-1, 6), api.OK),
		two("Sub", Sub, q(-api.MaxNum, 1), q(1, api.MaxNum), api.Rat{}, api.ErrLarge),
		two("Mul", Mul, q(2, 3), q(-9, 4), q(-3, 2), api.OK),
		two("Mul", Mul, q(api.MaxNum, 7), q(7, api.MaxNum), q(1, 1), api.OK),
		two("Mul", Mul, q(0, 1), big1, q(0, 1), api.OK),
		two("Mul", Mul, big1, q(2, 1), api.Rat{}, api.ErrLarge),
		two("Div", Div, q(1, 2), q(-3, 4), q(-2, 3), api.OK),
		two("Div", Div, q(0, 1), q(-3, 4), q(0, 1), api.OK),
		two("Div", Div, q(1, 2), q(0, 1), api.Rat{}, api.ErrNone),
		two("Div", Div, bad, q(0, 1), api.Rat{}, api.ErrArg),
		two("Div", Div, q(1, api.MaxNum), q(2, 1), api.Rat{}, api.ErrLarge),
	})
	for _, f := range []func(x, y api.Rat) (api.Rat, api.Errno){Add, Sub, Mul, Div} {
		check(t, []answer{
			two("first", f, bad, q(1, 1), api.Rat{}, api.ErrArg),
			two("second", f, q(1, 1), bad, api.Rat{}, api.ErrArg),
			two("zero value", f, q(1, 1), api.Rat{}, api.Rat{}, api.ErrArg),
		})
	}
}

func TestFourAgainstLibrary(t *testing.T) {
	r := rand.New(rand.NewSource(3))
	for range 20000 {
		x, y := number(r), number(r)
		want := func(f func(z, x, y *big.Rat) *big.Rat) (api.Rat, api.Errno) {
			return fromBig(f(new(big.Rat), toBig(x), toBig(y)))
		}
		same := func(name string, got func(x, y api.Rat) (api.Rat, api.Errno), f func(z, x, y *big.Rat) *big.Rat) {
			w, e := want(f)
			check(t, []answer{two(name, got, x, y, w, e)})
		}
		same("Add", Add, (*big.Rat).Add)
		same("Sub", Sub, (*big.Rat).Sub)
		same("Mul", Mul, (*big.Rat).Mul)
		if y.N != 0 {
			same("Div", Div, (*big.Rat).Quo)
		}
		if c, e := Cmp(x, y); c != toBig(x).Cmp(toBig(y)) || e != api.OK {
			t.Fatalf("Cmp of %v and %v: %d %v", x, y, c, e)
		}
	}
}

func TestPower(t *testing.T) {
	check(t, []answer{
		withInt("cube", Power, q(-2, 3), 3, q(-8, 27), api.OK),
		withInt("inverse", Power, q(-2, 3), -3, q(-27, 8), api.OK),
		withInt("even inverse", Power, q(-2, 3), -2, q(9, 4), api.OK),
		withInt("zeroth", Power, q(5, 7), 0, q(1, 1), api.OK),
		withInt("zeroth of 0", Power, q(0, 1), 0, q(1, 1), api.OK),
		withInt("of 0", Power, q(0, 1), 60, q(0, 1), api.OK),
		withInt("of 1", Power, q(1, 1), -60, q(1, 1), api.OK),
		withInt("of -1", Power, q(-1, 1), 59, q(-1, 1), api.OK),
		withInt("greatest", Power, q(10, 1), 12, q(api.MaxNum, 1), api.OK),
		withInt("large", Power, q(10, 1), 13, api.Rat{}, api.ErrLarge),
		withInt("large denominator", Power, q(10, 1), -13, api.Rat{}, api.ErrLarge),
		withInt("very large", Power, q(api.MaxNum, api.MaxNum-1), 60, api.Rat{}, api.ErrLarge),
		withInt("none", Power, q(0, 1), -1, api.Rat{}, api.ErrNone),
		withInt("exponent ahead of none", Power, q(0, 1), -61, api.Rat{}, api.ErrArg),
		withInt("exponent", Power, q(1, 1), 61, api.Rat{}, api.ErrArg),
		withInt("exponent", Power, q(1, 1), math.MinInt, api.Rat{}, api.ErrArg),
		withInt("number", Power, q(2, 4), 0, api.Rat{}, api.ErrArg),
	})
}

func TestCmp(t *testing.T) {
	for _, c := range []struct {
		x, y api.Rat
		want int
		err  api.Errno
	}{
		{q(1, 3), q(1, 2), -1, api.OK},
		{q(1, 2), q(1, 2), 0, api.OK},
		{q(-1, 3), q(-1, 2), 1, api.OK},
		{q(api.MaxNum-1, api.MaxNum), q(api.MaxNum-2, api.MaxNum-1), 1, api.OK},
		{q(2, 2), q(1, 2), 0, api.ErrArg},
		{q(1, 2), api.Rat{}, 0, api.ErrArg},
	} {
		if r, e := Cmp(c.x, c.y); r != c.want || e != c.err {
			t.Errorf("Cmp of %v, %v: %d %v", c.x, c.y, r, e)
		}
	}
}

func TestFloor(t *testing.T) {
	for _, c := range []struct {
		x    api.Rat
		want int
		err  api.Errno
	}{
		{q(-3, 2), -2, api.OK},
		{q(3, 2), 1, api.OK},
		{q(-4, 1), -4, api.OK},
		{q(0, 1), 0, api.OK},
		{q(-1, api.MaxNum), -1, api.OK},
		{q(1, api.MaxNum), 0, api.OK},
		{q(-api.MaxNum, 1), -api.MaxNum, api.OK},
		{q(4, 2), 0, api.ErrArg},
	} {
		if r, e := Floor(c.x); r != c.want || e != c.err {
			t.Errorf("Floor of %v: %d %v", c.x, r, e)
		}
	}
}

func TestRound(t *testing.T) {
	check(t, []answer{
		withInt("even below", Round, q(1, 4), 2, q(0, 1), api.OK),
		withInt("even above", Round, q(3, 4), 2, q(1, 1), api.OK),
		withInt("even of negative", Round, q(-1, 4), 2, q(0, 1), api.OK),
		withInt("even of negative", Round, q(-3, 4), 2, q(-1, 1), api.OK),
		withInt("even of odd", Round, q(-5, 2), 1, q(-2, 1), api.OK),
		withInt("nearest", Round, q(2, 3), 10, q(7, 10), api.OK),
		withInt("nearest", Round, q(1, 3), 10, q(3, 10), api.OK),
		withInt("shortened", Round, q(1, 2), 10, q(1, 2), api.OK),
		withInt("greatest grid", Round, q(1, 3), api.MaxGrid, q(333333, 1000000), api.OK),
		withInt("greatest", Round, q(-api.MaxNum, 1), api.MaxGrid, q(-api.MaxNum, 1), api.OK),
		withInt("large", Round, q(api.MaxNum, 7), api.MaxGrid, api.Rat{}, api.ErrLarge),
		withInt("grid", Round, q(1, 2), 0, api.Rat{}, api.ErrArg),
		withInt("grid", Round, q(1, 2), api.MaxGrid+1, api.Rat{}, api.ErrArg),
		withInt("grid", Round, q(1, 2), math.MinInt, api.Rat{}, api.ErrArg),
		withInt("number", Round, q(2, 4), 1, api.Rat{}, api.ErrArg),
	})
}

// TestRoundNearest looks at the multiples on both sides.
func TestRoundNearest(t *testing.T) {
	r := rand.New(rand.NewSource(4))
	for range 5000 {
		x, g := number(r), r.Intn(12)+1
		got, e := Round(x, g)
		if e != api.OK {
			t.Fatalf("Round of %v, %d: %v", x, g, e)
		}
		k := new(big.Rat).Mul(toBig(got), big.NewRat(int64(g), 1))
		if !k.IsInt() {
			t.Fatalf("Round of %v, %d: %v", x, g, got)
		}
		gap := new(big.Rat).Sub(new(big.Rat).Mul(toBig(x), big.NewRat(int64(g), 1)), k)
		order := gap.Abs(gap).Cmp(big.NewRat(1, 2))
		if order > 0 || order == 0 && k.Num().Bit(0) != 0 {
			t.Fatalf("Round of %v, %d: %v", x, g, got)
		}
	}
}
