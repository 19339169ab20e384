package root

import (
	"testing"

	"isocline/api"
)

func rootOf(p []api.Rat, k int) api.Root { return api.Root{P: p, K: k} }

// apart is like near, but its two roots at 1/a are a little further apart, so that those of near(a) are between them.
func apart(a int) []api.Rat {
	return sparse(11, map[int]int{0: -2, 1: 4 * a, 2: -2 * a * a})
}

func TestCmp(t *testing.T) {
	// In near(a) and apart(a), numbers 1 and 2 are the roots at 1/a.
	a := 500000
	middle := rootOf(whole(-1, a), 0)
	ascending := [][]api.Root{
		{rootOf(whole(-2, 0, 1), 0), rootOf(mustProduct(t, whole(-2, 0, 1), whole(-2, 1)), 0)},
		{rootOf(whole(1, 1), 0), rootOf(whole(-1, 0, 1), 0)},
		{rootOf(whole(0, 1), 0), rootOf(whole(0, -2, 0, 1), 1)},
		{rootOf(apart(a), 0)},
		{rootOf(near(a), 1)},
		{middle, rootOf(mustProduct(t, whole(-1, a), whole(-1, 1)), 0), rootOf(mustProduct(t, whole(-1, a), whole(1, 1)), 1)},
		{rootOf(near(a), 2)},
		{rootOf(apart(a), 1)},
		{rootOf(whole(-1, 0, 2), 1), rootOf(mustProduct(t, whole(-1, 0, 2), whole(-1, 3)), 2)},
		{rootOf(whole(-1, 1), 0), rootOf(whole(0, -1, 1), 1), rootOf(whole(-1, 0, 1), 1)},
		{rootOf(whole(-api.MaxNum, 0, api.MaxNum-1), 1)},
		{rootOf(whole(-2, 0, 0, 0, 1), 1)},
		{rootOf(whole(-2, 0, 1), 1), rootOf(whole(-4, 0, 0, 0, 1), 1), rootOf(mustProduct(t, whole(-2, 0, 1), whole(-3, 0, 1)), 2)},
		{rootOf(wilkinson(t), 1), rootOf(whole(-2, 1), 0)},
		{rootOf(wilkinson(t), 11), rootOf(whole(-12, 1), 0)},
		{rootOf(whole(-api.MaxNum, 1), 0)},
		{rootOf(whole(-api.MaxNum, -api.MaxNum, 1), 1)},
	}
	for i, l := range ascending {
		for j, m := range ascending {
			for _, r := range l {
				for _, s := range m {
					if c, e := Cmp(r, s); c != signOf(floatOf(i-j)) || e != api.OK {
						t.Errorf("Cmp of %v, %v: %d %v", r, s, c, e)
					}
				}
			}
		}
	}
}

func TestCmpRat(t *testing.T) {
	a := 500000
	for _, c := range []struct {
		r    api.Root
		x    api.Rat
		want int
	}{
		{rootOf(whole(-2, 0, 1), 0), q(0, 1), -1},
		{rootOf(whole(-2, 0, 1), 1), q(0, 1), 1},
		{rootOf(whole(-2, 0, 1), 1), q(2, 1), -1},
		{rootOf(whole(-2, 0, 1), 1), q(665857, 470832), -1},
		{rootOf(whole(-2, 0, 1), 1), q(1607521, 1136689), 1},
		{rootOf(whole(-4, 0, 1), 0), q(-2, 1), 0},
		{rootOf(whole(-4, 0, 1), 0), q(2, 1), -1},
		{rootOf(whole(-4, 0, 1), 1), q(-2, 1), 1},
		{rootOf(whole(-4, 0, 1), 1), q(2, 1), 0},
		{rootOf(near(a), 0), q(1, a), -1},
		{rootOf(near(a), 1), q(1, a), -1},
		{rootOf(near(a), 2), q(1, a), 1},
		{rootOf(near(a), 3), q(1, a), 1},
		{rootOf(wilkinson(t), 6), q(7, 1), 0},
		{rootOf(wilkinson(t), 6), q(6, 1), 1},
		{rootOf(wilkinson(t), 6), q(8, 1), -1},
		{rootOf(whole(-api.MaxNum, 1), 0), q(api.MaxNum, 1), 0},
		{rootOf(whole(-api.MaxNum, -api.MaxNum, 1), 1), q(api.MaxNum, 1), 1},
		{rootOf(whole(-1, api.MaxNum), 0), q(1, api.MaxNum), 0},
		{rootOf(whole(-1, api.MaxNum), 0), q(0, 1), 1},
	} {
		if o, e := CmpRat(c.r, c.x); o != c.want || e != api.OK {
			t.Errorf("CmpRat of %v, %v: %d %v, not %d", c.r, c.x, o, e, c.want)
		}
	}
}

func TestSign(t *testing.T) {
	a := 500000
	two := rootOf(whole(-2, 0, 1), 1)
	tiny := []api.Rat{q(-1, api.MaxNum), q(-1, api.MaxNum)}
	for _, c := range []struct {
		q    []api.Rat
		r    api.Root
		want int
	}{
		{nil, two, 0},
		{whole(1), two, 1},
		{[]api.Rat{q(-1, api.MaxNum)}, two, -1},
		{whole(-2, 0, 1), two, 0},
		{whole(-2, 0, 1), rootOf(whole(0, 1), 0), -1},
		{mustProduct(t, whole(-2, 0, 1), tiny), two, 0},
		{mustProduct(t, whole(-3, 0, 1), tiny), two, 1},
		{whole(-3, 2), two, -1},
		{whole(-7, 5), two, 1},
		{whole(-4, 0, 0, 0, 1), two, 0},
		{whole(-4, 0, 0, 0, 1), rootOf(whole(-2, 0, 1), 0), 0},
		{whole(-5, 0, 0, 0, 1), two, -1},
		{whole(0, 1), rootOf(whole(0, 1), 0), 0},
		{whole(-1, 2), rootOf(whole(-1, 2), 0), 0},
		{whole(-1, 3), rootOf(whole(-1, 3), 0), 0},
		{whole(-1, 3), rootOf(whole(-1, 2), 0), 1},
		{whole(-1, 2), rootOf(whole(-1, 3), 0), -1},
		{whole(-1, a), rootOf(near(a), 1), -1},
		{whole(-1, a), rootOf(near(a), 2), 1},
		{whole(1, -2*a, a*a), rootOf(near(a), 1), 1}, // the square of it
		{near(a), rootOf(near(a), 2), 0},
		{near(a), rootOf(whole(-1, a), 0), 1},
		{apart(a), rootOf(near(a), 1), 1},
		{apart(a), rootOf(near(a), 2), 1},
		{near(a), rootOf(apart(a), 0), -1},
		{near(a), rootOf(apart(a), 1), -1},
		{wilkinson(t), rootOf(whole(-9, 1), 0), 0},
		{wilkinson(t), rootOf(whole(-19, 2), 0), -1},
		{wilkinson(t), rootOf(whole(-21, 2), 0), 1},
	} {
		if s, e := Sign(c.q, c.r); s != c.want || e != api.OK {
			t.Errorf("Sign of %v at %v: %d %v, not %d", c.q, c.r, s, e, c.want)
		}
	}
}

func TestFloor(t *testing.T) {
	most := api.MaxNum
	for _, c := range []struct {
		r    api.Root
		g, k int
		same bool
		err  api.Errno
	}{
		{rootOf(whole(0, -2, 0, 1), 2), 10, 14, false, api.OK},
		{rootOf(whole(0, -2, 0, 1), 0), 10, -15, false, api.OK},
		{rootOf(whole(0, -2, 0, 1), 1), 10, 0, true, api.OK},
		{rootOf(whole(-2, 0, 1), 1), 1000, 1414, false, api.OK},
		{rootOf(whole(-2, 0, 1), 1), api.MaxGrid, 1414213, false, api.OK},
		{rootOf(whole(-2, 0, 1), 0), api.MaxGrid, -1414214, false, api.OK},
		{rootOf(whole(-1, 2), 0), 1, 0, false, api.OK},
		{rootOf(whole(-1, 2), 0), 2, 1, true, api.OK},
		{rootOf(whole(-1, 2), 0), 3, 1, false, api.OK},
		{rootOf(whole(1, 2), 0), 1, -1, false, api.OK},
		{rootOf(whole(1, 2), 0), 4, -2, true, api.OK},
		{rootOf(whole(-1, most), 0), api.MaxGrid, 0, false, api.OK},
		{rootOf(whole(1, most), 0), api.MaxGrid, -1, false, api.OK},
		{rootOf(near(500000), 1), 500000, 0, false, api.OK},
		{rootOf(near(500000), 2), 500000, 1, false, api.OK},
		{rootOf(wilkinson(t), 10), 7, 77, true, api.OK},
		{rootOf(whole(-most, 1), 0), 1, most, true, api.OK},
		{rootOf(whole(most, 1), 0), 1, -most, true, api.OK},
		{rootOf(whole(-most, 1), 0), 2, 0, false, api.ErrLarge},
		{rootOf(whole(most, 1), 0), 2, 0, false, api.ErrLarge},
		{rootOf(whole(-most, 1), 0), api.MaxGrid, 0, false, api.ErrLarge},
		{rootOf(whole(most, 1), 0), api.MaxGrid, 0, false, api.ErrLarge},
		{rootOf(whole(1-most, 2), 0), 2, most - 1, true, api.OK},
		{rootOf(whole(-1-most/2, 1), 0), 2, 0, false, api.ErrLarge},
		{rootOf(whole(-most/api.MaxGrid, 1), 0), api.MaxGrid, most, true, api.OK},
		// Between MaxNum and MaxNum + 1, and as far below 0.
		{rootOf(whole(-most, -most, 1), 1), 1, most, false, api.OK},
		{rootOf(whole(-most, most, 1), 0), 1, 0, false, api.ErrLarge},
		{rootOf(whole(-2, 0, 1), 1), 0, 0, false, api.ErrArg},
		{rootOf(whole(-2, 0, 1), 1), -1, 0, false, api.ErrArg},
		{rootOf(whole(-2, 0, 1), 1), api.MaxGrid + 1, 0, false, api.ErrArg},
		{rootOf(whole(-most, 1), 0), api.MaxGrid + 1, 0, false, api.ErrArg}, // ahead of ErrLarge
		{rootOf(whole(-2, 0, 1), 2), 0, 0, false, api.ErrNone},              // ahead of ErrArg
	} {
		if k, same, e := Floor(c.r, c.g); k != c.k || same != c.same || e != c.err {
			t.Errorf("Floor of %v, %d: %d %v %v, not %d %v %v", c.r, c.g, k, same, e, c.k, c.same, c.err)
		}
	}
}

func TestRational(t *testing.T) {
	p := mustProduct(t, whole(1, 3), whole(0, 1), whole(-2, 0, 1), whole(-5, 7), whole(1, 0, 1))
	most := api.MaxNum
	for _, c := range []struct {
		r  api.Root
		x  api.Rat
		is bool
	}{
		{rootOf(p, 0), api.Rat{}, false},
		{rootOf(p, 1), q(-1, 3), true},
		{rootOf(p, 2), q(0, 1), true},
		{rootOf(p, 3), q(5, 7), true},
		{rootOf(p, 4), api.Rat{}, false},
		{rootOf(whole(1-most, most), 0), q(most-1, most), true},
		{rootOf(whole(most, most-1), 0), q(-most, most-1), true},
		{rootOf(whole(-most, 1), 0), q(most, 1), true},
		{rootOf(whole(1, most), 0), q(-1, most), true},
		{rootOf(whole(-most, 0, most-1), 0), api.Rat{}, false},
		{rootOf(whole(0, -most, 0, most-1), 1), q(0, 1), true},
		{rootOf(whole(-1, 0, most), 1), q(1, 1000000), true},
		{rootOf(near(500000), 1), api.Rat{}, false},
		{rootOf(near(500000), 2), api.Rat{}, false},
		{rootOf(wilkinson(t), 4), q(5, 1), true},
	} {
		if x, is, e := Rational(c.r); x != c.x || is != c.is || e != api.OK {
			t.Errorf("Rational of %v: %v %v %v, not %v %v", c.r, x, is, e, c.x, c.is)
		}
	}
}
