package mat

import (
	"math/big"
	"math/rand"
	"slices"
	"testing"

	"isocline/api"
)

func TestSolve(t *testing.T) {
	type lists = [][]api.Rat
	most := q(api.MaxNum, 1)
	for _, c := range []struct {
		m    api.Mat
		b, x []api.Rat
		l    lists
		err  api.Errno
	}{
		{square(1, 2, 2, 4), whole(3, 6), whole(3, 0), lists{whole(-2, 1)}, api.OK},
		{square(1, 2, 2, 4), whole(3, 7), nil, nil, api.ErrNone},
		{square(1, 2, 3, 5), whole(1, 2), whole(-1, 1), nil, api.OK},
		{square(0, 0, 0, 0), whole(0, 0), whole(0, 0), lists{whole(1, 0), whole(0, 1)}, api.OK},
		{square(0, 0, 0, 0), whole(0, 1), nil, nil, api.ErrNone},
		{oblong(1, 0, 2, 4), whole(6), whole(0, 3, 0), lists{whole(1, 0, 0), whole(0, -2, 1)}, api.OK},
		{oblong(2, 1, 2, 0, 3, 0, 0, 1, 4), whole(5, 6), whole(5, 0, 6, 0), lists{whole(-2, 1, 0, 0), whole(-3, 0, -4, 1)}, api.OK},
		{oblong(3, 1, 2, 3), whole(2, 4, 6), whole(2), nil, api.OK},
		{oblong(3, 1, 2, 3), whole(2, 4, 5), nil, nil, api.ErrNone},
		{oblong(1, 2, 3), whole(1), []api.Rat{q(1, 2), q(0, 1)}, lists{{q(-3, 2), q(1, 1)}}, api.OK},
		{api.Mat{}, nil, nil, nil, api.OK},
		{api.Mat{C: 2}, nil, whole(0, 0), lists{whole(1, 0), whole(0, 1)}, api.OK},
		{api.Mat{R: 2}, whole(0, 0), nil, nil, api.OK},
		{api.Mat{R: 2}, whole(0, 1), nil, nil, api.ErrNone},
		{square(1, 2, 2, 4), whole(3), nil, nil, api.ErrFit},
		{square(1, 2, 2, 4), whole(3, 6, 9), nil, nil, api.ErrFit},
		{oblong(1, 1, 2), whole(1, 2), nil, nil, api.ErrFit},
		{api.Mat{}, whole(0), nil, nil, api.ErrFit},
		{square(1, 2, 2, 4), []api.Rat{q(1, 1), q(1, 1), q(2, 2)}, nil, nil, api.ErrArg},
		{oblong(1, 1, 0), []api.Rat{most}, []api.Rat{most, q(0, 1)}, lists{whole(0, 1)}, api.OK},
		{api.Mat{R: 1, C: 1, V: []api.Rat{q(1, 2)}}, []api.Rat{most}, nil, nil, api.ErrLarge},
		// The solution is representable, the kernel is not.
		{api.Mat{R: 1, C: 2, V: []api.Rat{q(1, 2), most}}, whole(0), nil, nil, api.ErrLarge},
		// That there is none comes ahead of a large kernel.
		{api.Mat{R: 2, C: 2, V: []api.Rat{q(1, 2), most, q(0, 1), q(0, 1)}}, whole(0, 1), nil, nil, api.ErrNone},
	} {
		x, l, e := Solve(c.m, c.b)
		sameList(t, "Solve", x, e, c.x, c.err)
		if !slices.EqualFunc(l, c.l, slices.Equal) {
			t.Errorf("kernel of %v: %v, not %v", c.m, l, c.l)
		}
		y, is, e := Refute(c.m, c.b)
		if c.err == api.ErrNone || c.err == api.ErrLarge || c.err == api.OK {
			isRefutation(t, c.m, c.b, y, is, e, c.err == api.ErrNone)
		} else if e != c.err || is || len(y) > 0 {
			t.Errorf("Refute of %v, %v: %v %v %v", c.m, c.b, y, is, e)
		}
	}
}

// isRefutation checks that what Refute has returned says 0 = 1, or that it has returned nothing.
func isRefutation(t *testing.T, m api.Mat, b, y []api.Rat, is bool, e api.Errno, want bool) {
	t.Helper()
	if e != api.OK || is != want || !is && len(y) > 0 || is && len(y) != m.R {
		t.Fatalf("Refute of %v, %v: %v %v %v", m, b, y, is, e)
	}
	if !is {
		return
	}
	sum := new(big.Rat)
	for i, x := range y {
		sum.Add(sum, new(big.Rat).Mul(toBig(x), toBig(b[i])))
	}
	left := newPlain(1, m.C)
	for j := range left[0] {
		for i, x := range y {
			left[0][j].Add(left[0][j], new(big.Rat).Mul(toBig(x), toBig(m.V[i*m.C+j])))
		}
		if left[0][j].Sign() != 0 {
			sum.SetInt64(0)
		}
	}
	if sum.Cmp(big.NewRat(1, 1)) != 0 {
		t.Fatalf("Refute of %v, %v: %v", m, b, y)
	}
}

// TestRefuteLarge has rows that contradict each other plainly, among others that make large combinations, and only such others.
func TestRefuteLarge(t *testing.T) {
	r := rand.New(rand.NewSource(5))
	m := api.Mat{R: 12, C: 3}
	var b []api.Rat
	for range m.R * m.C {
		m.V = append(m.V, q(r.Intn(api.MaxNum), 1))
	}
	for range m.R {
		b = append(b, q(r.Intn(api.MaxNum), 1))
	}
	if y, is, e := Refute(m, b); e != api.ErrLarge || is || len(y) > 0 {
		t.Errorf("Refute of large rows: %v %v %v", y, is, e)
	}
	copy(m.V[9*3:10*3], m.V[5*3:6*3])
	b[5], b[9] = q(3, 1), q(5, 1)
	y, is, e := Refute(m, b)
	isRefutation(t, m, b, y, is, e, true)
	b[9] = b[5]
	if y, is, e := Refute(m, b); e != api.ErrLarge || is || len(y) > 0 {
		t.Errorf("Refute of large rows: %v %v %v", y, is, e)
	}
	copy(m.V[11*3:], whole(0, 0, 0))
	y, is, e = Refute(m, b)
	isRefutation(t, m, b, y, is, e, true)
}

// solved returns what Solve must return, from the reduced form of the library.
func solved(m api.Mat, b []api.Rat) ([]api.Rat, [][]api.Rat, api.Errno) {
	p := toPlain(m)
	for i := range p {
		p[i] = append(p[i], toBig(b[i]))
	}
	p, pivots := p.reduce()
	if slices.Contains(pivots, m.C) {
		return nil, nil, api.ErrNone
	}
	x := newPlain(1, m.C)[0]
	for i, c := range pivots {
		x[c] = p[i][m.C]
	}
	first, err := listOf(x)
	var basis [][]api.Rat
	for j := range m.C {
		if slices.Contains(pivots, j) {
			continue
		}
		x := newPlain(1, m.C)[0]
		x[j].SetInt64(1)
		for i, c := range pivots {
			x[c].Neg(p[i][j])
		}
		next, e := listOf(x)
		basis = append(basis, next)
		err = max(err, e)
	}
	if err != api.OK {
		return nil, nil, err
	}
	return first, basis, api.OK
}

func TestSolveAgainstLibrary(t *testing.T) {
	r := rand.New(rand.NewSource(6))
	count := map[api.Errno]int{}
	for range 4000 {
		rows, columns := r.Intn(6), r.Intn(6)
		m := random(r, rows, columns+1)
		var b []api.Rat
		var left []api.Rat
		for i := range rows {
			row := view{m}.row(i)
			b = append(b, row[columns])
			left = append(left, row[:columns]...)
		}
		m = api.Mat{R: rows, C: columns, V: left}
		wantX, want, err := solved(m, b)
		x, l, e := Solve(m, b)
		count[e]++
		sameList(t, "Solve", x, e, wantX, err)
		if !slices.EqualFunc(l, want, slices.Equal) {
			t.Fatalf("kernel of %v: %v", m, l)
		}
		y, is, e := Refute(m, b)
		if e == api.ErrLarge && err == api.ErrNone && !is && len(y) == 0 {
			count[-1]++
			continue
		}
		isRefutation(t, m, b, y, is, e, err == api.ErrNone)
	}
	if count[api.OK] < 1000 || count[api.ErrNone] < 500 || count[api.ErrLarge] < 100 || count[-1] > 300 {
		t.Errorf("only %v", count)
	}
}
