package mat

import (
	"math/big"
	"math/rand"
	"slices"
	"testing"

	"isocline/api"
)

// ones is a matrix with 1 above the diagonal and x on it.
func ones(n, x int) api.Mat {
	m := scaled(n, q(x, 1))
	for i := range n - 1 {
		m.V[i*n+i+1] = q(1, 1)
	}
	return m
}

// beside is the matrix with m and n on its diagonal.
func beside(m, n api.Mat) api.Mat {
	size := m.R + n.R
	out := scaled(size, q(0, 1))
	for i := range m.R {
		copy(out.V[i*size:], view{m}.row(i))
	}
	for i := range n.R {
		copy(out.V[(m.R+i)*size+m.R:], view{n}.row(i))
	}
	return out
}

// raised is t^n.
func raised(n int) []api.Rat {
	return append(noughts(n), q(1, 1))
}

func TestCharAndMinimal(t *testing.T) {
	for _, c := range []struct {
		m             api.Mat
		char, minimal []api.Rat
		err, errToo   api.Errno
	}{
		{square(0, 1, -1, 0), whole(1, 0, 1), whole(1, 0, 1), api.OK, api.OK},
		{api.Mat{}, whole(1), whole(1), api.OK, api.OK},
		{square(5), whole(-5, 1), whole(-5, 1), api.OK, api.OK},
		{square(0), whole(0, 1), whole(0, 1), api.OK, api.OK},
		{square(1, 2, 3, 4), whole(-2, -5, 1), whole(-2, -5, 1), api.OK, api.OK},
		{square(1, 0, 0, 1), whole(1, -2, 1), whole(-1, 1), api.OK, api.OK},
		{ones(2, 1), whole(1, -2, 1), whole(1, -2, 1), api.OK, api.OK},
		{square(0, 0, 0, 0), whole(0, 0, 1), whole(0, 1), api.OK, api.OK},
		{ones(12, 0), raised(12), raised(12), api.OK, api.OK},
		{scaled(12, q(0, 1)), raised(12), whole(0, 1), api.OK, api.OK},
		{beside(ones(3, 0), ones(2, 0)), raised(5), raised(3), api.OK, api.OK},
		{beside(ones(2, 2), square(2)), whole(-8, 12, -6, 1), whole(4, -4, 1), api.OK, api.OK},
		{beside(square(1, 2, 3, 4), square(1, 2, 3, 4)), whole(4, 20, 21, -10, 1), whole(-2, -5, 1), api.OK, api.OK},
		{beside(square(3, 0, 0, 3), square(4)), whole(-36, 33, -10, 1), whole(12, -7, 1), api.OK, api.OK},
		{api.Mat{R: 2, C: 2, V: []api.Rat{q(1, 2), q(1, 3), q(1, 4), q(1, 5)}}, []api.Rat{q(1, 60), q(-7, 10), q(1, 1)}, []api.Rat{q(1, 60), q(-7, 10), q(1, 1)}, api.OK, api.OK},
		{scaled(3, q(2, 3)), []api.Rat{q(-8, 27), q(4, 3), q(-2, 1), q(1, 1)}, []api.Rat{q(-2, 3), q(1, 1)}, api.OK, api.OK},
		{scaled(12, q(1, api.MaxNum)), nil, []api.Rat{q(-1, api.MaxNum), q(1, 1)}, api.ErrLarge, api.OK},
		{scaled(12, q(1000001, 1)), nil, whole(-1000001, 1), api.ErrLarge, api.OK},
		{square(0, 1000000, 1000000, 0), whole(-api.MaxNum, 0, 1), whole(-api.MaxNum, 0, 1), api.OK, api.OK},
		{square(0, 1000000, 1000001, 0), nil, nil, api.ErrLarge, api.ErrLarge},
		// Only what is in between is large.
		{square(api.MaxNum, api.MaxNum-1, -api.MaxNum-0, 1-api.MaxNum), whole(0, -1, 1), whole(0, -1, 1), api.OK, api.OK},
		{square(0, api.MaxNum, 0, 0), whole(0, 0, 1), whole(0, 0, 1), api.OK, api.OK},
		{oblong(1, 1, 2), nil, nil, api.ErrFit, api.ErrFit},
		{oblong(2, 1, 2), nil, nil, api.ErrFit, api.ErrFit},
		{api.Mat{R: 2}, nil, nil, api.ErrFit, api.ErrFit},
		{api.Mat{C: 2}, nil, nil, api.ErrFit, api.ErrFit},
	} {
		p, e := Char(c.m)
		sameList(t, "Char", p, e, c.char, c.err)
		p, e = Minimal(c.m)
		sameList(t, "Minimal", p, e, c.minimal, c.errToo)
	}
}

// charOf returns the characteristic polynomial by the traces of powers.
func (p plain) charOf() []*big.Rat {
	n := len(p)
	c := make([]*big.Rat, n+1)
	c[n] = big.NewRat(1, 1)
	m := newPlain(n, n)
	for k := 1; k <= n; k++ {
		m = p.mul(m).add(unit(n), c[n-k+1])
		c[n-k] = new(big.Rat).Mul(p.mul(m).trace(), big.NewRat(-1, int64(k)))
	}
	return c
}

// minimalOf returns the first combination of powers that is 0: they are rows of a matrix, each beside its number.
func (p plain) minimalOf() []*big.Rat {
	n := len(p)
	power := unit(n)
	var columns plain
	for k := 0; ; k++ {
		columns = append(columns, slices.Concat(power...))
		turned := newPlain(n*n, 0)
		for i := range turned {
			for _, c := range columns {
				turned[i] = append(turned[i], c[i])
			}
		}
		reduced, pivots := turned.reduce()
		if len(pivots) == k {
			var c []*big.Rat
			for i := range k {
				c = append(c, new(big.Rat).Neg(reduced[i][k]))
			}
			return append(c, big.NewRat(1, 1))
		}
		power = power.mul(p)
	}
}

func TestCharAgainstLibrary(t *testing.T) {
	r := rand.New(rand.NewSource(7))
	for range 600 {
		n := r.Intn(7)
		m := random(r, n, n)
		want, err := listOf(toPlain(m).charOf())
		p, e := Char(m)
		sameList(t, "Char", p, e, want, err)
	}
}

func TestMinimalAgainstLibrary(t *testing.T) {
	r := rand.New(rand.NewSource(8))
	less, large := 0, 0
	for range 400 {
		size := r.Intn(4) + 1
		m := random(r, size, size)
		switch r.Intn(4) {
		case 0:
			m = beside(m, m)
		case 1:
			m = beside(beside(m, square(r.Intn(3))), square(r.Intn(3)))
		case 2:
			m = beside(ones(r.Intn(3)+1, r.Intn(2)), beside(ones(r.Intn(3)+1, r.Intn(2)), ones(1, r.Intn(2))))
		}
		m = similar(r, m)
		plain := toPlain(m).minimalOf()
		want, err := listOf(plain)
		p, e := Minimal(m)
		sameList(t, "Minimal", p, e, want, err)
		if m.R == 0 {
			continue
		}
		// The places are only a help: without them, powers are tried one by one.
		p, e = relation(of(m), nil)
		sameList(t, "relation", p, e, want, err)
		if len(plain) <= m.R {
			less++
		}
		if e == api.ErrLarge {
			large++
		}
	}
	if less < 100 || large < 30 {
		t.Errorf("only %d %d", less, large)
	}
}

func TestDefinite(t *testing.T) {
	for _, c := range []struct {
		m                  api.Mat
		above, zero, below int
		err                api.Errno
	}{
		{api.Mat{}, 0, 0, 0, api.OK},
		{square(5), 1, 0, 0, api.OK},
		{square(0), 0, 1, 0, api.OK},
		{square(-5), 0, 0, 1, api.OK},
		{square(0, 1, 1, 0), 1, 0, 1, api.OK},
		{square(1, 1, 1, 1), 1, 1, 0, api.OK},
		{square(2, 1, 1, 2), 2, 0, 0, api.OK},
		{square(0, 0, 0, 0), 0, 2, 0, api.OK},
		{square(0, 1, 0, 1, 0, 0, 0, 0, 0), 1, 1, 1, api.OK},
		{scaled(12, q(api.MaxNum, 1)), 12, 0, 0, api.OK},
		{scaled(12, q(-1, api.MaxNum)), 0, 0, 12, api.OK},
		{square(1, 2, 3, 1), 0, 0, 0, api.ErrArg},
		{square(1, 2, 0, 2, 1, 0, 1, 0, 1), 0, 0, 0, api.ErrArg},
		{oblong(1, 1, 2), 0, 0, 0, api.ErrFit},
		{oblong(2, 1, 2), 0, 0, 0, api.ErrFit},
		{api.Mat{C: 2}, 0, 0, 0, api.ErrFit},
	} {
		if above, zero, below, e := Definite(c.m); above != c.above || zero != c.zero || below != c.below || e != c.err {
			t.Errorf("Definite of %v: %d %d %d %v", c.m, above, zero, below, e)
		}
	}
}

// TestInertia looks at numbers on a diagonal in other coordinates: their signs stay.
func TestInertia(t *testing.T) {
	r := rand.New(rand.NewSource(9))
	tried := 0
	for range 1000 {
		n := r.Intn(8) + 1
		d := newPlain(n, n)
		count := [3]int{}
		for i := range d {
			s := r.Intn(3) - 1
			d[i][i].SetFrac64(int64(s*(r.Intn(20)+1)), int64(r.Intn(9)+1))
			count[1-s]++
		}
		base := random(r, n, n)
		if rank, _ := Rank(base); rank < n {
			continue
		}
		turned, _ := Turn(base)
		m, e := toPlain(turned).mul(d).mul(toPlain(base)).numbers(n)
		if e != api.OK {
			continue
		}
		tried++
		above, zero, below, e := Definite(m)
		if got := [3]int{above, zero, below}; got != count || e != api.OK {
			t.Fatalf("Definite of %v: %v %v, not %v", m, got, e, count)
		}
	}
	if tried < 200 {
		t.Errorf("only %d were tried", tried)
	}
}
