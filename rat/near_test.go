package rat

import (
	"math"
	"math/big"
	"math/rand"
	"slices"
	"testing"

	"isocline/api"
)

func TestSimplest(t *testing.T) {
	most := q(api.MaxNum, 1)
	check(t, []answer{
		two("plain", Simplest, q(1, 3), q(1, 2), q(1, 2), api.OK),
		two("between", Simplest, q(5, 7), q(6, 7), q(3, 4), api.OK),
		two("negative", Simplest, q(-7, 2), q(-10, 3), q(-7, 2), api.OK),
		two("least integer", Simplest, q(3, 2), q(17, 2), q(2, 1), api.OK),
		two("least integer of negative ones", Simplest, q(-17, 2), q(-3, 2), q(-2, 1), api.OK),
		two("nought inside", Simplest, q(-1, 2), q(1, 3), q(0, 1), api.OK),
		two("nought at the end", Simplest, q(0, 1), q(1, 3), q(0, 1), api.OK),
		two("nought at the other end", Simplest, q(-1, 3), q(0, 1), q(0, 1), api.OK),
		two("one number", Simplest, q(355, 113), q(355, 113), q(355, 113), api.OK),
		two("one negative number", Simplest, q(-355, 113), q(-355, 113), q(-355, 113), api.OK),
		two("integer as first end", Simplest, q(2, 1), q(5, 2), q(2, 1), api.OK),
		two("integer as last end", Simplest, q(3, 2), q(2, 1), q(2, 1), api.OK),
		two("greatest", Simplest, most, most, most, api.OK),
		two("finest", Simplest, q(api.MaxNum-1, api.MaxNum), q(api.MaxNum-1, api.MaxNum), q(api.MaxNum-1, api.MaxNum), api.OK),
		two("all", Simplest, q(-api.MaxNum, 1), most, q(0, 1), api.OK),
		two("order", Simplest, q(1, 2), q(1, 3), api.Rat{}, api.ErrArg),
		two("first number", Simplest, q(2, 4), q(1, 1), api.Rat{}, api.ErrArg),
		two("second number", Simplest, q(1, 4), q(1, 0), api.Rat{}, api.ErrArg),
	})
}

// TestSimplestSearch compares with a search through the denominators.
func TestSimplestSearch(t *testing.T) {
	r := rand.New(rand.NewSource(7))
	for range 5000 {
		x, _ := Make(r.Intn(401)-200, r.Intn(60)+1)
		y, _ := Make(r.Intn(401)-200, r.Intn(60)+1)
		if c, _ := Cmp(x, y); c > 0 {
			x, y = y, x
		}
		check(t, []answer{two("search", Simplest, x, y, searchSimplest(x, y), api.OK)})
	}
}

func searchSimplest(x, y api.Rat) api.Rat {
	for d := 1; ; d++ {
		low, high := -floorDiv(-x.N*d, x.D), floorDiv(y.N*d, y.D)
		if low > high {
			continue
		}
		n := min(max(low, 0), high)
		return q(n, d)
	}
}

func TestNear(t *testing.T) {
	pi := q(314159265359, 100000000000)
	check(t, []answer{
		withInt("plain", Near, q(22, 7), 5, q(16, 5), api.OK),
		withInt("itself", Near, q(22, 7), 7, q(22, 7), api.OK),
		withInt("any denominator", Near, q(-22, 7), api.MaxNum, q(-22, 7), api.OK),
		withInt("two equally near: lesser number", Near, q(1, 2), 1, q(0, 1), api.OK),
		withInt("two equally near: lesser number", Near, q(-1, 2), 1, q(-1, 1), api.OK),
		withInt("two equally near: lesser denominator", Near, q(1, 4), 2, q(0, 1), api.OK),
		withInt("two equally near: lesser denominator", Near, q(3, 4), 2, q(1, 1), api.OK),
		withInt("two equally near: lesser denominator", Near, q(-1, 4), 2, q(0, 1), api.OK),
		withInt("convergent", Near, pi, 7, q(22, 7), api.OK),
		withInt("between convergents", Near, pi, 105, q(311, 99), api.OK),
		withInt("convergent", Near, pi, 112, q(333, 106), api.OK),
		withInt("convergent", Near, pi, 113, q(355, 113), api.OK),
		withInt("convergent", Near, pi, 16603, q(355, 113), api.OK),
		withInt("least", Near, q(1, api.MaxNum), api.MaxNum-1, q(1, api.MaxNum-1), api.OK),
		withInt("least", Near, q(1, api.MaxNum), 2, q(0, 1), api.OK),
		withInt("greatest", Near, q(api.MaxNum, 3), 2, q(666666666667, 2), api.OK),
		withInt("most", Near, q(1, 2), 0, api.Rat{}, api.ErrArg),
		withInt("most", Near, q(1, 2), api.MaxNum+1, api.Rat{}, api.ErrArg),
		withInt("most", Near, q(1, 2), math.MinInt, api.Rat{}, api.ErrArg),
		withInt("number", Near, q(2, 4), 1, api.Rat{}, api.ErrArg),
	})
}

// TestNearSearch compares with a search through the denominators.
func TestNearSearch(t *testing.T) {
	r := rand.New(rand.NewSource(8))
	for range 3000 {
		x, _ := Make(r.Intn(801)-400, r.Intn(90)+1)
		if r.Intn(4) == 0 {
			x, _ = Make(r.Intn(api.MaxNum), r.Intn(api.MaxNum)+1)
		}
		most := r.Intn(40) + 1
		check(t, []answer{withInt("search", Near, x, most, searchNear(x, most), api.OK)})
	}
}

func searchNear(x api.Rat, most int) api.Rat {
	var best *big.Rat
	for d := 1; d <= most; d++ {
		at := new(big.Int).Mul(big.NewInt(int64(x.N)), big.NewInt(int64(d)))
		n := at.Div(at, big.NewInt(int64(x.D))).Int64()
		for _, y := range []*big.Rat{big.NewRat(n, int64(d)), big.NewRat(n+1, int64(d))} {
			if best == nil || gap(y, x).Cmp(gap(best, x)) < 0 {
				best = y // those before have lesser denominators, or are lesser
			}
		}
	}
	z, _ := fromBig(best)
	return z
}

func gap(y *big.Rat, x api.Rat) *big.Rat {
	d := new(big.Rat).Sub(y, toBig(x))
	return d.Abs(d)
}

func TestFraction(t *testing.T) {
	for _, c := range []struct {
		x    api.Rat
		want []int
	}{
		{q(43, 30), []int{1, 2, 3, 4}},
		{q(0, 1), []int{0}},
		{q(-7, 1), []int{-7}},
		{q(1, 1), []int{1}},
		{q(1, 2), []int{0, 2}},
		{q(-1, 2), []int{-1, 2}},
		{q(-43, 30), []int{-2, 1, 1, 3, 4}},
		{q(api.MaxNum, 1), []int{api.MaxNum}},
		{q(-1, api.MaxNum), []int{-1, 1, api.MaxNum - 1}},
	} {
		if l, e := Fraction(c.x); !slices.Equal(l, c.want) || e != api.OK {
			t.Errorf("Fraction of %v: %v %v", c.x, l, e)
		}
		check(t, []answer{{"Join", func() (api.Rat, api.Errno) { return Join(c.want) }, c.x, api.OK}})
	}
	if l, e := Fraction(q(2, 4)); len(l) != 0 || e != api.ErrArg {
		t.Errorf("Fraction of 2/4: %v %v", l, e)
	}
}

func TestJoin(t *testing.T) {
	long := make([]int, api.MaxRow+1)
	golden := slices.Repeat([]int{1}, 59)
	golden[58] = 2
	for _, c := range []struct {
		l    []int
		want api.Rat
		err  api.Errno
	}{
		{nil, api.Rat{}, api.ErrArg},
		{[]int{}, api.Rat{}, api.ErrArg},
		{[]int{1}, q(1, 1), api.OK},
		{[]int{0}, q(0, 1), api.OK},
		{[]int{-5}, q(-5, 1), api.OK},
		{[]int{-1, 2}, q(-1, 2), api.OK},
		{[]int{1, 1}, api.Rat{}, api.ErrArg},
		{[]int{1, 2, 1}, api.Rat{}, api.ErrArg},
		{[]int{1, 0, 2}, api.Rat{}, api.ErrArg},
		{[]int{1, 2, -3}, api.Rat{}, api.ErrArg},
		{[]int{1, math.MinInt, 3}, api.Rat{}, api.ErrArg},
		{long, api.Rat{}, api.ErrLarge},
		{long[1:], api.Rat{}, api.ErrArg},
		{slices.Repeat([]int{2}, api.MaxRow), api.Rat{}, api.ErrLarge},
		{slices.Repeat([]int{math.MaxInt}, api.MaxRow), api.Rat{}, api.ErrLarge},
		{[]int{math.MinInt}, api.Rat{}, api.ErrLarge},
		{[]int{math.MinInt, 2}, api.Rat{}, api.ErrLarge},
		{[]int{0, math.MaxInt}, api.Rat{}, api.ErrLarge},
		{[]int{api.MaxNum + 1}, api.Rat{}, api.ErrLarge},
		{[]int{0, api.MaxNum}, q(1, api.MaxNum), api.OK},
		{[]int{0, api.MaxNum + 1}, api.Rat{}, api.ErrLarge},
		{golden, api.Rat{}, api.ErrLarge},
		{golden[2:], q(956722026041, 591286729879), api.OK},
	} {
		if x, e := Join(c.l); x != c.want || e != c.err {
			t.Errorf("Join of %v: %v %v, not %v %v", c.l, x, e, c.want, c.err)
		}
	}
}

// TestFractionJoined holds the form of the fraction and the way back.
func TestFractionJoined(t *testing.T) {
	r := rand.New(rand.NewSource(9))
	for range 5000 {
		x := number(r)
		l, e := Fraction(x)
		if e != api.OK || !isFraction(l) {
			t.Fatalf("Fraction of %v: %v %v", x, l, e)
		}
		kept := slices.Clone(l)
		check(t, []answer{{"Join", func() (api.Rat, api.Errno) { return Join(l) }, x, api.OK}})
		if !slices.Equal(l, kept) {
			t.Fatal("an argument was changed")
		}
	}
}
