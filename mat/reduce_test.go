package mat

import (
	"math/big"
	"math/rand"
	"slices"
	"testing"

	"isocline/api"
)

func TestReduce(t *testing.T) {
	for _, c := range []struct {
		m, out api.Mat
		pivots []int
		err    api.Errno
	}{
		{square(1, 2, 3, 4), square(1, 0, 0, 1), []int{0, 1}, api.OK},
		{square(1, 2, 2, 4), square(1, 2, 0, 0), []int{0}, api.OK},
		{square(0, 0, 0, 0), square(0, 0, 0, 0), nil, api.OK},
		{square(0, 3, 0, 0), square(0, 1, 0, 0), []int{1}, api.OK},
		{square(0, 0, 0, 5), square(0, 1, 0, 0), []int{1}, api.OK},
		{square(0, 1, 1, 0), square(1, 0, 0, 1), []int{0, 1}, api.OK},
		{oblong(3, 0, 0, 2, 4, 0, 3, 1, 2, 0, 0, 0, 0), oblong(3, 0, 1, 0, 0, 0, 0, 1, 2, 0, 0, 0, 0), []int{1, 2}, api.OK},
		{oblong(2, 2, 4, 1, 1, 2, 3), oblong(2, 1, 2, 0, 0, 0, 1), []int{0, 2}, api.OK},
		{oblong(1, -2, 3), api.Mat{R: 1, C: 2, V: []api.Rat{q(1, 1), q(-3, 2)}}, []int{0}, api.OK},
		{oblong(3, 5, 6, 7), oblong(3, 1, 0, 0), []int{0}, api.OK},
		{api.Mat{}, api.Mat{}, nil, api.OK},
		{api.Mat{R: 3}, api.Mat{R: 3}, nil, api.OK},
		{api.Mat{C: 3}, api.Mat{C: 3}, nil, api.OK},
		{scaled(12, q(1, api.MaxNum)), scaled(12, q(1, 1)), []int{0, 1, 2, 3, 4, 5, 6, 7, 8, 9, 10, 11}, api.OK},
		{api.Mat{R: 1, C: 2, V: []api.Rat{q(1, 2), q(api.MaxNum, 1)}}, api.Mat{}, nil, api.ErrLarge},
		{api.Mat{R: 1, C: 2, V: []api.Rat{q(3, 1), q(1, api.MaxNum)}}, api.Mat{}, nil, api.ErrLarge},
		// Only what is in between is large.
		{oblong(2, api.MaxNum, api.MaxNum-1, api.MaxNum-1, api.MaxNum-3), square(1, 0, 0, 1), []int{0, 1}, api.OK},
	} {
		m, pivots, e := Reduce(c.m)
		sameMat(t, "Reduce", m, e, c.out, c.err)
		if !slices.Equal(pivots, c.pivots) {
			t.Errorf("Reduce of %v: pivots %v, not %v", c.m, pivots, c.pivots)
		}
		_, plain := toPlain(c.m).reduce()
		if n, e := Rank(c.m); n != len(plain) || e != api.OK {
			t.Errorf("Rank of %v: %d %v", c.m, n, e)
		}
	}
}

func TestDetAndInverse(t *testing.T) {
	for _, c := range []struct {
		m       api.Mat
		det     api.Rat
		errDet  api.Errno
		inverse api.Mat
		err     api.Errno
	}{
		{api.Mat{}, q(1, 1), api.OK, api.Mat{}, api.OK},
		{square(-2), q(-2, 1), api.OK, api.Mat{R: 1, C: 1, V: []api.Rat{q(-1, 2)}}, api.OK},
		{square(0), q(0, 1), api.OK, api.Mat{}, api.ErrNone},
		{square(1, 2, 3, 5), q(-1, 1), api.OK, square(-5, 2, 3, -1), api.OK},
		{square(0, 1, 1, 0), q(-1, 1), api.OK, square(0, 1, 1, 0), api.OK},
		{square(0, 1, 0, 0, 0, 1, 1, 0, 0), q(1, 1), api.OK, square(0, 0, 1, 1, 0, 0, 0, 1, 0), api.OK},
		{square(0, 0, 1, 0, 1, 0, 1, 0, 0), q(-1, 1), api.OK, square(0, 0, 1, 0, 1, 0, 1, 0, 0), api.OK},
		{square(1, 2, 2, 4), q(0, 1), api.OK, api.Mat{}, api.ErrNone},
		{square(1, 2, 3, 4, 5, 6, 7, 8, 9), q(0, 1), api.OK, api.Mat{}, api.ErrNone},
		{square(0, 1, 0, 2), q(0, 1), api.OK, api.Mat{}, api.ErrNone},
		{api.Mat{R: 2, C: 2, V: []api.Rat{q(1, 2), q(1, 3), q(1, 4), q(1, 5)}}, q(1, 60), api.OK, square(12, -20, -15, 30), api.OK},
		{scaled(12, q(10, 1)), q(api.MaxNum, 1), api.OK, scaled(12, q(1, 10)), api.OK},
		{scaled(12, q(-11, 1)), api.Rat{}, api.ErrLarge, scaled(12, q(-1, 11)), api.OK},
		{scaled(2, q(1, api.MaxNum)), api.Rat{}, api.ErrLarge, scaled(2, q(api.MaxNum, 1)), api.OK},
		{square(1000000, 1, 1, 1000001), api.Rat{}, api.ErrLarge, api.Mat{}, api.ErrLarge},
		{square(api.MaxNum, api.MaxNum-1, api.MaxNum-1, api.MaxNum-2), q(-1, 1), api.OK, square(2-api.MaxNum, api.MaxNum-1, api.MaxNum-1, -api.MaxNum), api.OK},
		{oblong(1, 1, 2), api.Rat{}, api.ErrFit, api.Mat{}, api.ErrFit},
		{oblong(2, 0, 0), api.Rat{}, api.ErrFit, api.Mat{}, api.ErrFit},
		{api.Mat{R: 1}, api.Rat{}, api.ErrFit, api.Mat{}, api.ErrFit},
		{api.Mat{C: 1}, api.Rat{}, api.ErrFit, api.Mat{}, api.ErrFit},
	} {
		if x, e := Det(c.m); x != c.det || e != c.errDet {
			t.Errorf("Det of %v: %v %v, not %v %v", c.m, x, e, c.det, c.errDet)
		}
		m, e := Inverse(c.m)
		sameMat(t, "Inverse", m, e, c.inverse, c.err)
	}
}

// permuted is the determinant as it is defined: the sum over all ways to take one number of each row and column.
func (p plain) permuted(row int, used []bool) *big.Rat {
	if row == len(p) {
		return big.NewRat(1, 1)
	}
	sum := new(big.Rat)
	sign := big.NewRat(1, 1)
	for j := range p {
		if used[j] {
			continue
		}
		used[j] = true
		term := p.permuted(row+1, used)
		used[j] = false
		sum.Add(sum, term.Mul(term, new(big.Rat).Mul(sign, p[row][j])))
		sign.Neg(sign)
	}
	return sum
}

func TestReduceAgainstLibrary(t *testing.T) {
	r := rand.New(rand.NewSource(3))
	for range 2000 {
		a, b := r.Intn(6), r.Intn(6)
		m := random(r, a, b)
		plain, want := toPlain(m).reduce()
		out, err := plain.numbers(b)
		got, pivots, e := Reduce(m)
		sameMat(t, "Reduce", got, e, out, err)
		if e == api.OK && !slices.Equal(pivots, want) {
			t.Fatalf("Reduce of %v: %v", m, pivots)
		}
		if n, e := Rank(m); n != len(want) || e != api.OK {
			t.Fatalf("Rank of %v: %v %v", m, n, e)
		}
		if a == b {
			continue
		}
		if _, e := Det(m); e != api.ErrFit {
			t.Fatalf("Det of %v: %v", m, e)
		}
	}
}

func TestDetAgainstLibrary(t *testing.T) {
	r := rand.New(rand.NewSource(4))
	count := map[api.Errno]int{}
	for range 2000 {
		n := r.Intn(6)
		m := random(r, n, n)
		p := toPlain(m)
		want := p.permuted(0, make([]bool, n))
		x, err := numberOf(want)
		if got, e := Det(m); got != x || e != err {
			t.Fatalf("Det of %v: %v %v, not %v", m, got, e, want)
		}
		inverse, e := Inverse(m)
		count[e]++
		if (e == api.ErrNone) != (want.Sign() == 0) {
			t.Fatalf("Inverse of %v: %v", m, e)
		}
		if want.Sign() == 0 {
			continue
		}
		both := newPlain(n, 0)
		for i := range both {
			both[i] = append(p[i], unit(n)[i]...)
		}
		both, _ = both.reduce()
		for i := range both {
			both[i] = both[i][n:]
		}
		out, err := both.numbers(n)
		sameMat(t, "Inverse", inverse, e, out, err)
	}
	if count[api.OK] < 200 || count[api.ErrNone] < 200 || count[api.ErrLarge] < 100 {
		t.Errorf("only %v", count)
	}
}
