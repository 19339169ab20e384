package root

import (
	"slices"
	"testing"

	"isocline/api"
	"isocline/poly"
)

// plus is p with a number added to it.
func plus(t *testing.T, p []api.Rat, x api.Rat) []api.Rat {
	t.Helper()
	r, e := poly.Add(p, []api.Rat{x})
	if e != api.OK {
		t.Fatalf("no sum of %v, %v", p, x)
	}
	return r
}

func TestLeast(t *testing.T) {
	most, tenth := api.MaxNum, api.MaxNum/10
	valley := mustProduct(t, whole(-2, 0, 1), whole(-2, 0, 1)) // 0 at the square roots of 2, 4 at 0
	hill := mustProduct(t, valley, whole(-1))
	deep := sparse(12, nil)
	deep[12] = q(most, 1)
	deep[2] = q(-most, 1) // its slope is not representable, and the place of its least value irrational
	// Flat near 0, and steep at the square roots of 2000, where it is least.
	far := mustProduct(t, sparse(10, nil), []api.Rat{q(-3, 1250000000), q(0, 1), q(1, most)})
	for _, c := range []struct {
		p    []api.Rat
		a, b api.Rat
		g    int
		k, l int
		err  api.Errno
	}{
		{whole(0, 0, 1), q(-1, 1), q(2, 1), 1, 0, 4, api.OK},
		{whole(0, 0, 1), q(1, 1), q(2, 1), 1, 1, 4, api.OK},
		{whole(0, 0, 1), q(-2, 1), q(-1, 1), 1, 1, 4, api.OK},
		{whole(0, 0, 1), q(0, 1), q(2, 1), 1, 0, 4, api.OK},
		{whole(0, 0, 1), q(1, 2), q(2, 3), 10, 2, 5, api.OK},
		{whole(0, 0, 0, 1), q(-1, 1), q(1, 1), 1, -1, 1, api.OK},
		{nil, q(-1, 1), q(1, 1), 5, 0, 0, api.OK},
		{[]api.Rat{q(5, 2)}, q(-1, 1), q(1, 1), 1, 2, 3, api.OK},
		{[]api.Rat{q(5, 2)}, q(-1, 1), q(1, 1), 2, 5, 5, api.OK},
		{[]api.Rat{q(-5, 2)}, q(7, 1), q(7, 1), 1, -3, -2, api.OK},
		{[]api.Rat{q(-5, 2)}, q(1, 3), q(1, 2), 2, -5, -5, api.OK},
		{whole(1, -3), q(1, 2), q(1, 2), 1, -1, 0, api.OK},
		{whole(1, -3), q(-1, 1), q(1, 1), 1, -2, 4, api.OK},
		// Values at irrational numbers that are on the grid, or near it.
		{valley, q(0, 1), q(2, 1), 1, 0, 4, api.OK},
		{valley, q(-2, 1), q(1, 1), 1, 0, 4, api.OK},
		{valley, q(0, 1), q(1, 1), 1, 1, 4, api.OK},
		{valley, q(-3, 2), q(-1, 1), 1, 0, 1, api.OK},
		{valley, q(1, 1), q(1414213, 1000000), 1, 0, 1, api.OK},
		{valley, q(3, 2), q(2, 1), 16, 1, 64, api.OK},
		{hill, q(0, 1), q(2, 1), 1, -4, 0, api.OK},
		{plus(t, valley, q(1, 3)), q(1, 1), q(2, 1), 3, 1, 13, api.OK},
		{plus(t, valley, q(1, 3)), q(1, 1), q(2, 1), 1, 0, 5, api.OK},
		{plus(t, valley, q(1, tenth)), q(1, 1), q(2, 1), 1, 0, 5, api.OK},
		{plus(t, valley, q(-1, tenth)), q(1, 1), q(2, 1), 1, -1, 4, api.OK},
		{plus(t, valley, q(tenth-1, tenth)), q(1, 1), q(2, 1), 1, 0, 5, api.OK},
		{plus(t, hill, q(1, tenth)), q(1, 1), q(2, 1), 1, -4, 1, api.OK},
		{plus(t, hill, q(-1, tenth)), q(1, 1), q(2, 1), 1, -5, 0, api.OK},
		{whole(0, -2, 0, 1), q(0, 1), q(2, 1), 1000, -1089, 4000, api.OK},
		{whole(0, -2, 0, 1), q(-1, 1), q(1, 1), 1000, -1089, 1089, api.OK},
		{far, q(0, 1), q(45, 1), 1, -12800000, 0, api.OK},
		{far, q(0, 1), q(44, 1), 1, -12619576, 0, api.OK},
		{deep, q(0, 1), q(1, 1), 1, -582355932310, 0, api.OK},
		{deep, q(0, 1), q(1, 1), 2, 0, 0, api.ErrLarge},
		{deep, q(0, 1), q(1, 2), 1, -249755859375, 0, api.OK},
		// What is too large.
		{whole(0, 1), q(0, 1), q(most, 1), 1, 0, most, api.OK},
		{whole(0, 1), q(0, 1), q(most, 1), 2, 0, 0, api.ErrLarge},
		{whole(0, -1), q(0, 1), q(most, 1), 1, -most, 0, api.OK},
		{whole(0, -1), q(0, 1), q(most, 1), 2, 0, 0, api.ErrLarge},
		{[]api.Rat{q(1, 2), q(1, 1)}, q(0, 1), q(most, 1), 1, 0, 0, api.ErrLarge},
		{[]api.Rat{q(-1, 2), q(1, 1)}, q(0, 1), q(most, 1), 1, -1, most, api.OK},
		{[]api.Rat{q(-1, 2), q(-1, 1)}, q(0, 1), q(most, 1), 1, 0, 0, api.ErrLarge},
		{sparse(12, nil), q(-most, 1), q(0, 1), 1, 0, 0, api.ErrLarge},
		{sparse(12, nil), q(-10, 1), q(10, 1), 1, 0, most, api.OK},
		{[]api.Rat{q(0, 1), q(1, most)}, q(-most, 1), q(most, 1), api.MaxGrid, -api.MaxGrid, api.MaxGrid, api.OK},
		// Bad arguments.
		{whole(0, 1), q(1, 1), q(0, 1), 1, 0, 0, api.ErrArg},
		{nil, q(1, 1), q(0, 1), 1, 0, 0, api.ErrArg},
		{whole(0, 1), q(0, 1), q(1, 1), 0, 0, 0, api.ErrArg},
		{whole(0, 1), q(0, 1), q(1, 1), -5, 0, 0, api.ErrArg},
		{whole(0, 1), q(0, 1), q(1, 1), api.MaxGrid + 1, 0, 0, api.ErrArg},
		{whole(0, 1), q(0, 1), q(most, 1), api.MaxGrid + 1, 0, 0, api.ErrArg},
		{nil, q(0, 1), q(1, 1), 0, 0, 0, api.ErrArg},
	} {
		if k, l, e := Least(c.p, c.a, c.b, c.g); k != c.k || l != c.l || e != c.err {
			t.Errorf("Least of %v from %v to %v with %d: %d %d %v, not %d %d %v", c.p, c.a, c.b, c.g, k, l, e, c.k, c.l, c.err)
		}
	}
}

// TestLeastFine looks for values at irrational numbers that are by far nearer to the grid than the gaps around them are wide.
func TestLeastFine(t *testing.T) {
	third := mustProduct(t, whole(-2, 0, 0, 1), whole(-2, 0, 0, 1)) // 0 at the cube root of 2
	for _, n := range []int{-5, 1, 7} {
		for _, d := range []int{3, 1000, 1000000, 1000000000} {
			for _, c := range []struct {
				by      api.Rat
				k, high int
			}{{q(n, 1), n, n + 1}, {q(n*d+1, d), n, n + 2}, {q(n*d-1, d), n - 1, n + 1}} {
				p := plus(t, third, c.by)
				if k, l, e := Least(p, q(1, 1), q(4, 3), 1); k != c.k || l != c.high || e != api.OK {
					t.Errorf("Least of %v: %d %d %v, not %d %d", p, k, l, e, c.k, c.high)
				}
			}
		}
	}
}

func TestPositive(t *testing.T) {
	times := func(l ...[]api.Rat) []api.Rat { return mustProduct(t, l...) }
	right, left := whole(2, -2, 1), whole(2, 2, 1) // 1 and -1, with i and -i
	for _, c := range []struct {
		p                  []api.Rat
		above, zero, below int
		err                api.Errno
	}{
		{whole(1, 0, 1), 0, 2, 0, api.OK},
		{whole(5), 0, 0, 0, api.OK},
		{whole(-5), 0, 0, 0, api.OK},
		{nil, 0, 0, 0, api.ErrNone},
		{whole(0, 1), 0, 1, 0, api.OK},
		{whole(-1, 1), 1, 0, 0, api.OK},
		{whole(1, 1), 0, 0, 1, api.OK},
		{whole(1, -1), 1, 0, 0, api.OK},
		{whole(-1, -1), 0, 0, 1, api.OK},
		{sparse(12, nil), 0, 12, 0, api.OK},
		{sparse(11, nil), 0, 11, 0, api.OK},
		{whole(-1, 0, 1), 1, 0, 1, api.OK},
		{whole(2, 3, 1), 0, 0, 2, api.OK},
		{right, 2, 0, 0, api.OK},
		{left, 0, 0, 2, api.OK},
		{whole(4, 0, 0, 0, 1), 2, 0, 2, api.OK}, // right times left
		{times(right, right, left), 4, 0, 2, api.OK},
		{times(right, right, left, left), 4, 0, 4, api.OK},
		{times(right, left, whole(0, 1), whole(1, 0, 1), whole(1, 0, 1), whole(-1, 1)), 3, 5, 2, api.OK},
		{times(whole(1, 0, 1), whole(1, 0, 1), whole(4, 0, 1), whole(1, 1)), 0, 6, 1, api.OK},
		{whole(-1, 0, 0, 0, 1), 1, 2, 1, api.OK},
		{sparse(12, map[int]int{0: -1}), 5, 2, 5, api.OK},
		{sparse(12, map[int]int{0: 1}), 6, 0, 6, api.OK},
		{sparse(11, map[int]int{0: -1}), 5, 0, 6, api.OK},
		{sparse(11, map[int]int{0: 1}), 6, 0, 5, api.OK},
		{wilkinson(t), 12, 0, 0, api.OK},
		{near(500000), 7, 0, 5, api.OK},
		// A root that is hardly above 0, at 0 and hardly below it.
		{[]api.Rat{q(-1, api.MaxNum), q(api.MaxNum, 1)}, 1, 0, 0, api.OK},
		{[]api.Rat{q(1, api.MaxNum), q(api.MaxNum, 1)}, 0, 0, 1, api.OK},
		{whole(api.MaxNum, 1, api.MaxNum), 0, 0, 2, api.OK},
		{whole(api.MaxNum, -1, api.MaxNum), 2, 0, 0, api.OK},
		{whole(api.MaxNum, 0, api.MaxNum), 0, 2, 0, api.OK},
		{[]api.Rat{q(1, 999999999989), q(1, 999999999961), q(1, 999999999959)}, 0, 0, 2, api.OK},
	} {
		above, zero, below, e := Positive(c.p)
		if above != c.above || zero != c.zero || below != c.below || e != c.err {
			t.Errorf("Positive of %v: %d %d %d %v, not %d %d %d %v", c.p, above, zero, below, e, c.above, c.zero, c.below, c.err)
		}
	}
}

func TestVariations(t *testing.T) {
	for _, c := range []struct {
		p    []api.Rat
		want int
		err  api.Errno
	}{
		{nil, 0, api.ErrNone},
		{whole(-3), 0, api.OK},
		{whole(0, 0, 1), 0, api.OK},
		{whole(1, -1), 1, api.OK},
		{whole(-1, 0, 0, 1), 1, api.OK},
		{whole(1, 0, 0, 1), 0, api.OK},
		{whole(1, 0, -1, 0, 1), 2, api.OK},
		{whole(-1, -1, 1, 1, -1), 2, api.OK},
		{[]api.Rat{q(1, api.MaxNum), q(-api.MaxNum, 1), q(0, 1), q(1, 3)}, 2, api.OK},
		{wilkinson(t), 12, api.OK},
	} {
		if n, e := Variations(c.p); n != c.want || e != c.err {
			t.Errorf("Variations of %v: %d %v, not %d %v", c.p, n, e, c.want, c.err)
		}
	}
	kept := whole(1, 0, -1)
	if Variations(kept); !slices.Equal(kept, whole(1, 0, -1)) {
		t.Error("Variations changes its argument")
	}
}
