package exact

import (
	"math/rand"
	"testing"
)

func polyOf(l ...int) Poly {
	var p []Int
	for _, n := range l {
		p = append(p, NewInt(n))
	}
	return NewPoly(p)
}

func ratio(n, d int) Ratio {
	return NewRatio(NewInt(n), NewInt(d))
}

func TestDips(t *testing.T) {
	line, valley := polyOf(0, 1), polyOf(-2, 0, 1)
	below := Whole(-1).n
	for _, c := range []struct {
		name     string
		p        Poly
		from, to Ratio
		want     bool
	}{
		{"zero", nil, Whole(0), Whole(1), false},
		{"constant", polyOf(1), Whole(0), Whole(1), false},
		{"constant below", polyOf(-1), Whole(0), Whole(1), true},
		{"line from nought", line, Whole(0), Whole(1), false},
		{"line to nought", line, Whole(-1), Whole(0), true},
		{"falling line to nought", line.Scale(below), Whole(-1), Whole(0), false},
		{"line at nought", line, Whole(0), Whole(0), false},
		{"line at a number below", line, Whole(-1), Whole(-1), true},
		{"falling line from nought", line.Scale(below), Whole(0), Whole(1), true},
		{"valley in between", valley, Whole(-2), Whole(2), true},
		{"valley beside", valley, ratio(3, 2), Whole(2), false},
		{"valley at an end", valley, Whole(1), Whole(2), true},
		{"between two roots at the ends", polyOf(0, -1, 1), Whole(0), Whole(1), true},
		{"between two roots at the ends, above", polyOf(0, 1, -1), Whole(0), Whole(1), false},
		{"beyond the ends", polyOf(0, 1, -1), Whole(0), Whole(2), true},
		{"root in between that stands twice", valley.Mul(valley), Whole(1), Whole(2), false},
		{"root in between that stands three times", valley.Mul(valley).Mul(valley), ratio(-3, 2), ratio(3, 2), true},
		{"four times", valley.Mul(valley).Mul(valley).Mul(valley), Whole(-2), Whole(2), false},
		{"two and three times", polyOf(0, 1).Mul(polyOf(0, 1)).Mul(polyOf(-1, 1)).Mul(polyOf(-1, 1)).Mul(polyOf(-1, 1)), Whole(-1), Whole(2), true},
		{"three times at both ends", polyOf(0, 0, 0, 1).Mul(polyOf(-1, 3, -3, 1)), Whole(0), Whole(1), true},
		{"twice at both ends", polyOf(0, 0, 1).Mul(polyOf(1, -2, 1)), Whole(0), Whole(1), false},
		{"twice at both ends, below", polyOf(0, 0, 1).Mul(polyOf(-1, 2, -1)), Whole(0), Whole(1), true},
		{"no root", polyOf(1, 0, 1), Whole(-5), Whole(5), false},
		{"hardly any", polyOf(1, -2000000, 999999999999), Whole(0), Whole(1), true},
		{"hardly none", polyOf(1, -2000000, 1000000000001), Whole(0), Whole(1), false},
		{"one double root", polyOf(1, -2000000, 1000000000000), Whole(0), Whole(1), false},
	} {
		if got := c.p.Dips(c.from, c.to); got != c.want {
			t.Errorf("%s: %v", c.name, got)
		}
	}
}

// TestDipsAgainstRoots makes polynomials of rational roots, between which their signs are known.
func TestDipsAgainstRoots(t *testing.T) {
	r := rand.New(rand.NewSource(11))
	for range 3000 {
		p := polyOf([]int{-3, -1, 1, 2}[r.Intn(4)])
		from := r.Intn(9) - 5
		to := from + r.Intn(6)
		for range r.Intn(6) {
			line := polyOf(3-r.Intn(7), 1)
			for range 1 + r.Intn(4) {
				p = p.Mul(line)
			}
		}
		if r.Intn(3) == 0 {
			p = p.Mul(polyOf(1, 1, 1)) // without a real root
		}
		want := false
		for x := 2 * from; x <= 2*to; x++ { // all roots are whole: a sign holds from one to the next
			want = want || p.Value(NewInt(x), NewInt(2)).Sign() < 0
		}
		if got := p.Dips(Whole(from), Whole(to)); got != want {
			t.Fatalf("%v from %d to %d: %v", p, from, to, got)
		}
	}
}

func TestRatioFloor(t *testing.T) {
	for _, c := range []struct{ n, d, want int }{{7, 2, 3}, {-7, 2, -4}, {6, 2, 3}, {-6, 2, -3}, {0, 5, 0}, {1, 3, 0}, {-1, 3, -1}} {
		if n := ratio(c.n, c.d).Floor(); n.Cmp(NewInt(c.want)) != 0 {
			t.Errorf("floor of %d/%d: %v", c.n, c.d, n)
		}
	}
}
