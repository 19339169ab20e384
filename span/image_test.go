package span

import (
	"math/big"
	"math/rand"
	"slices"
	"testing"

	"isocline/api"
	"isocline/poly"
	"isocline/root"
)

// plus is p and a number.
func plus(t *testing.T, p []api.Rat, n api.Rat) []api.Rat {
	t.Helper()
	if n.N == 0 {
		return p
	}
	s, e := poly.Add(p, []api.Rat{n})
	if e != api.OK {
		t.Fatalf("no sum of %v, %v", p, n)
	}
	return s
}

func TestImage(t *testing.T) {
	most, grid := api.MaxNum, api.MaxGrid
	square, cube := whole(0, 0, 1), whole(0, 0, 0, 1)
	valley := whole(4, 0, -4, 0, 1) // 0 at the square roots of 2, 4 at 0
	hill := whole(-4, 0, 4, 0, -1)
	tiny := q(1, 100000000000)
	for _, c := range []struct {
		name string
		p    []api.Rat
		x    api.Span
		g    int
		want api.Span
		err  api.Errno
	}{
		{"square", square, from(-1, 2), 1, from(0, 4), api.OK},
		{"square above nought", square, from(1, 2), 1, from(1, 4), api.OK},
		{"square of one number", square, parts(1, 1, 3), 10, parts(1, 2, 10), api.OK},
		{"cube", cube, from(-2, 1), 1, from(-8, 1), api.OK},
		{"zero", nil, from(-2, 1), 1, from(0, 0), api.OK},
		{"constant", whole(-5), from(-2, 1), 1, from(-5, -5), api.OK},
		{"rounded constant", []api.Rat{q(1, 3)}, from(-2, 1), 10, parts(3, 4, 10), api.OK},
		{"valley", valley, from(0, 2), 1, from(0, 4), api.OK},
		{"hill", hill, from(0, 2), 1, from(-4, 0), api.OK},
		{"at irrational numbers", whole(0, -2, 0, 1), from(-1, 1), 1000, parts(-1089, 1089, 1000), api.OK},
		// Multiples k/g that are representable, with k that is above MaxNum.
		{"large constant", whole(most / 2), from(0, 1), grid, from(most/2, most/2), api.OK},
		{"greatest constants", whole(-most), from(0, 1), grid, from(-most, -most), api.OK},
		{"large line", whole(0, 1), from(-most, most), grid, from(-most, most), api.OK},
		{"large values", square, from(0, 2000), grid, from(0, 4000000), api.OK},
		{"large values below nought", whole(0, 0, -1), from(0, 2000), grid, from(-4000000, 0), api.OK},
		{"large fractions", square, parts(0, 4001, 2), grid, api.Span{Lo: q(0, 1), Hi: q(16008001, 4)}, api.OK},
		{"large fractions that are not representable", square, parts(0, 2000001, 1000), grid, api.Span{}, api.ErrLarge},
		{"small and large", []api.Rat{q(1, 3), q(1, 1)}, from(0, 1500000), 2, api.Span{Lo: q(0, 1), Hi: q(3000001, 2)}, api.OK},
		{"small and large below nought", []api.Rat{q(-1, 3), q(-1, 1)}, from(0, 1500000), 2, api.Span{Lo: q(-3000001, 2), Hi: q(0, 1)}, api.OK},
		{"large, rounded up", []api.Rat{q(-1, 100), q(1, 1)}, from(0, most/2), 4, api.Span{Lo: q(-1, 4), Hi: q(most/2, 1)}, api.OK},
		{"large, rounded down", []api.Rat{q(1, 100), q(-1, 1)}, from(0, most/2), 4, api.Span{Lo: q(-most/2, 1), Hi: q(1, 4)}, api.OK},
		{"large, not representable", []api.Rat{q(1, 3), q(1, 1)}, from(0, most/2), 7, api.Span{}, api.ErrLarge},
		{"above all numbers", []api.Rat{q(1, 3), q(1, 1)}, from(0, most), 7, api.Span{}, api.ErrLarge},
		{"below all numbers", []api.Rat{q(-1, 3), q(-1, 1)}, from(0, most), 7, api.Span{}, api.ErrLarge},
		{"far above all numbers", cube, from(0, most), 1, api.Span{}, api.ErrLarge},
		{"large valley", plus(t, valley, q(5000000, 1)), from(1, 2), grid, from(5000000, 5000004), api.OK},
		{"large valley above a multiple", plus(t, valley, q(500000000001, 100000)), from(1, 2), grid, parts(500000000001, 500000400001, 100000), api.OK},
		{"large valley just below a multiple", []api.Rat{q(2500001999, 500), q(0, 1), q(-3999, 1000), q(0, 1), q(1, 1)}, from(1, 2), grid, api.Span{}, api.ErrLarge},
		{"large hill", plus(t, hill, q(5000000, 1)), from(1, 2), grid, from(4999996, 5000000), api.OK},
		{"large hill below nought", plus(t, hill, q(-5000000, 1)), from(-2, -1), grid, from(-5000004, -5000000), api.OK},
		{"valley and tiny", []api.Rat{q(4, 1), tiny, q(-4, 1), q(0, 1), q(1, 1)}, from(0, 2), grid, parts(0, 4000001, grid), api.OK},
		{"Horner fails", whole(-most, 2), from(0, most), 1, from(-most, most), api.OK},
		{"grid", square, from(0, 1), 0, api.Span{}, api.ErrArg},
		{"grid of zero", nil, from(0, 1), grid + 1, api.Span{}, api.ErrArg},
		{"order", nil, from(1, 0), 1, api.Span{}, api.ErrArg},
	} {
		x, e := Image(c.p, c.x, c.g)
		check(t, answer{"Image: " + c.name, x, e, c.want, c.err})
	}
}

// TestImageMoved compares polynomials with large constants with those without them, whose values on the grid root.Least finds.
func TestImageMoved(t *testing.T) {
	r := rand.New(rand.NewSource(8))
	large := 0
	for range 4000 {
		p, x, g := polynomial(r), narrow(r), grid(r)
		if len(p) > 7 {
			p = p[:0]
		}
		by := r.Intn(40000001) - 20000000
		if r.Intn(3) == 0 {
			by = r.Intn(2*api.MaxNum+1) - api.MaxNum
		}
		k, l, e := root.Least(p, x.Lo, x.Hi, g)
		moved, err := poly.Add(p, whole(by))
		if e != api.OK || err != api.OK {
			continue
		}
		far := big.NewRat(int64(by), 1)
		lo, hi := big.NewRat(int64(k), int64(g)), big.NewRat(int64(l), int64(g))
		want, e := plain{lo.Add(lo, far), hi.Add(hi, far)}.span()
		kept := slices.Clone(moved)
		got, err := Image(moved, x, g)
		check(t, answer{"Image", got, err, want, e})
		if _, _, alone := root.Least(moved, x.Lo, x.Hi, g); e == api.OK && alone == api.ErrLarge {
			large++
		}
		if !slices.Equal(moved, kept) {
			t.Fatal("Image changes its argument")
		}
	}
	if large < 200 {
		t.Errorf("only %d large samples", large)
	}
}

// TestSteps compares with root.Least where both have an answer.
func TestSteps(t *testing.T) {
	r := rand.New(rand.NewSource(9))
	same := 0
	for i := range 3000 {
		p, x, g := polynomial(r), narrow(r), grid(r)
		if i%3 == 0 && len(p) > 0 { // roots that stand twice and three times
			double := through(r, p[:min(len(p), 4)], x)
			if double[len(double)-1].N == 0 {
				continue
			}
			for range 1 + i%2 {
				if s, e := poly.Mul(double, p[:min(len(p), 4)]); e == api.OK {
					double = s
				}
			}
			p = double
		}
		if poly.Validate(p) != api.OK {
			continue
		}
		k, l, e := root.Least(p, x.Lo, x.Hi, g)
		if e != api.OK {
			continue
		}
		same++
		if m, n, err := steps(p, x, g); m != k || n != l || err != api.OK {
			t.Errorf("steps of %v, %v, %d: %d %d %v, not %d %d", p, x, g, m, n, err, k, l)
		}
	}
	if same < 1000 {
		t.Errorf("only %d samples", same)
	}
}

// TestImageWithinHorner asks for what follows from the promises.
func TestImageWithinHorner(t *testing.T) {
	r := rand.New(rand.NewSource(10))
	for range 3000 {
		p, x, g := polynomial(r), narrow(r), grid(r)
		image, e := Image(p, x, g)
		horner, err := Horner(p, x, g)
		if e != api.OK || err != api.OK {
			continue
		}
		if hull, _ := Hull(image, horner); hull != horner {
			t.Errorf("Image of %v, %v, %d: %v, Horner: %v", p, x, g, image, horner)
		}
	}
}
