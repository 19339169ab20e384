package root

import (
	"math"
	"math/big"
	"math/rand"
	"slices"
	"testing"

	"isocline/api"
)

func TestValidate(t *testing.T) {
	long := make([]api.Rat, api.MaxDeg+2)
	for _, c := range []struct {
		p   []api.Rat
		k   int
		err api.Errno
	}{
		{whole(-2, 0, 1), 0, api.OK},
		{whole(-2, 0, 1), 1, api.OK},
		{whole(-2, 0, 1), 2, api.ErrNone},
		{whole(-2, 0, 1), -1, api.ErrNone},
		{whole(-2, 0, 1), math.MaxInt, api.ErrNone},
		{whole(-2, 0, 1), math.MinInt, api.ErrNone},
		{whole(1, 0, 1), 0, api.ErrNone},
		{whole(0, 1), 0, api.OK},
		{whole(0, 1), 1, api.ErrNone},
		{whole(0, 0, 1), 0, api.ErrArg},               // a root twice
		{whole(1, 0, 2, 0, 1), 0, api.ErrArg},         // complex roots twice, ahead of the number
		{whole(-2, 5, -4, 1), 1, api.ErrArg},          // 1 twice and 2
		{whole(1), 0, api.ErrArg},                     // a constant
		{nil, 0, api.ErrArg},                          // zero
		{whole(-2, 0, -1), 5, api.ErrArg},             // the last one below 0
		{whole(2, 0, -1), 0, api.ErrArg},              //
		{whole(-4, 0, 2), 0, api.ErrArg},              // a common divisor
		{[]api.Rat{q(-1, 2), q(1, 1)}, 0, api.ErrArg}, // not whole
		{whole(-2, 0, 0), 0, api.ErrArg},
		{[]api.Rat{q(2, 2), q(1, 1)}, 0, api.ErrArg},
		{long, -1, api.ErrLarge},
		{sparse(13, nil), 0, api.ErrLarge},
		{sparse(12, map[int]int{0: -2}), 1, api.OK},
		{sparse(12, map[int]int{0: -2}), 2, api.ErrNone},
		{whole(-api.MaxNum, 1), 0, api.OK},
		{[]api.Rat{q(-1, 999999999989), q(1, 999999999961)}, 0, api.ErrArg},
		// The primitive polynomial is not representable.
		{[]api.Rat{q(-1, 999999999989), q(1, 999999999961), q(1, 999999999959)}, 0, api.ErrArg},
	} {
		if e := Validate(api.Root{P: c.p, K: c.k}); e != c.err {
			t.Errorf("Validate of %v, %d: %v, not %v", c.p, c.k, e, c.err)
		}
	}
}

func TestCount(t *testing.T) {
	threes := mustProduct(t, whole(-3, 1), whole(-3, 1), whole(-3, 1), whole(1, 3), whole(-2, 0, 1))
	most, least := q(api.MaxNum, 1), q(-api.MaxNum, 1)
	for _, c := range []struct {
		p    []api.Rat
		a, b api.Rat
		want int
		err  api.Errno
	}{
		{whole(-2, 0, 1), q(0, 1), q(2, 1), 1, api.OK},
		{whole(-2, 0, 1), q(-2, 1), q(2, 1), 2, api.OK},
		{whole(-2, 0, 1), q(3, 2), q(2, 1), 0, api.OK},
		{whole(-4, 0, 1), q(-2, 1), q(2, 1), 1, api.OK}, // the lower end is left out, the upper one is not
		{whole(-4, 0, 1), q(2, 1), q(2, 1), 0, api.OK},
		{whole(-4, 0, 1), q(2, 1), q(3, 1), 0, api.OK},
		{whole(-4, 0, 1), q(-3, 1), q(-2, 1), 1, api.OK},
		{threes, least, most, 4, api.OK},
		{threes, q(3, 1), most, 0, api.OK},
		{threes, q(2, 1), q(3, 1), 1, api.OK},
		{threes, q(-1, 3), q(3, 1), 2, api.OK},
		{sparse(12, nil), q(-1, 1), q(0, 1), 1, api.OK},
		{sparse(12, nil), q(0, 1), q(1, 1), 0, api.OK},
		{whole(5), least, most, 0, api.OK},
		{whole(1, 0, 1), least, most, 0, api.OK},
		{whole(-1, 1), q(2, 1), q(1, 1), 0, api.ErrArg},
		{nil, q(2, 1), q(1, 1), 0, api.ErrArg}, // ahead of ErrNone
		{nil, q(1, 1), q(2, 1), 0, api.ErrNone},
		{nil, q(1, 1), q(1, 1), 0, api.ErrNone},
		// Roots that are a little within 1 and a little beyond it.
		{whole(1-api.MaxNum, 0, api.MaxNum), q(-1, 1), q(1, 1), 2, api.OK},
		{whole(-api.MaxNum, 0, api.MaxNum-1), q(-1, 1), q(1, 1), 0, api.OK},
		{[]api.Rat{q(-api.MaxNum, 1), q(1, api.MaxNum)}, least, most, 0, api.OK}, // a root beyond all numbers
		{[]api.Rat{q(-1, api.MaxNum), q(api.MaxNum, 1)}, q(0, 1), q(1, api.MaxNum), 1, api.OK},
	} {
		if n, e := Count(c.p, c.a, c.b); n != c.want || e != c.err {
			t.Errorf("Count of %v from %v to %v: %d %v, not %d %v", c.p, c.a, c.b, n, e, c.want, c.err)
		}
	}
}

func TestRoots(t *testing.T) {
	mixed := mustProduct(t, whole(0, 1), whole(0, 1), whole(-3, 2), whole(-2, 0, 1), whole(-2, 0, 1), whole(-2, 0, 1), whole(1, 0, 1), []api.Rat{q(-5, 7)})
	thousand := []api.Rat{q(1, api.MaxNum/1000)} // (1000*t - 1)^6 over 10^9, whose primitive polynomial is not representable
	for range 6 {
		thousand = mustProduct(t, thousand, whole(-1, 1000))
	}
	primes := [3]int{999999999989, 999999999961, 999999999959}
	for _, c := range []struct {
		p, part []api.Rat
		times   []int
		err     api.Errno
	}{
		{whole(0, -2, 0, 1), whole(0, -2, 0, 1), []int{1, 1, 1}, api.OK},
		{whole(0, 2, 0, -1), whole(0, -2, 0, 1), []int{1, 1, 1}, api.OK},
		{whole(0, 0, -4, 0, 2), whole(0, -2, 0, 1), []int{1, 2, 1}, api.OK},
		{mixed, mustProduct(t, whole(0, 1), whole(-3, 2), whole(-2, 0, 1), whole(1, 0, 1)), []int{3, 2, 3, 1}, api.OK},
		{sparse(12, nil), whole(0, 1), []int{12}, api.OK},
		{thousand, whole(-1, 1000), []int{6}, api.OK},
		{whole(7), nil, nil, api.OK},
		{whole(1, 0, 1), nil, nil, api.OK},
		{whole(1, 0, 2, 0, 1), nil, nil, api.OK},
		{nil, nil, nil, api.ErrNone},
		{[]api.Rat{q(1, 6), q(1, 4)}, whole(2, 3), []int{1}, api.OK},
		// Primitive polynomials that are not representable: an error only where there is a root.
		{[]api.Rat{q(-1, primes[0]), q(1, primes[1]), q(1, primes[2])}, nil, nil, api.ErrLarge},
		{[]api.Rat{q(1, primes[0]), q(1, primes[1]), q(1, primes[2])}, nil, nil, api.OK},
		{[]api.Rat{q(-api.MaxNum, 1), q(1, api.MaxNum)}, nil, nil, api.ErrLarge},
	} {
		roots, times, e := Roots(c.p)
		if !slices.Equal(times, c.times) || e != c.err || len(roots) != len(times) {
			t.Errorf("Roots of %v: %v %v %v, not %v %v", c.p, roots, times, e, c.times, c.err)
			continue
		}
		for k, r := range roots {
			if !slices.Equal(r.P, c.part) || r.K != k {
				t.Errorf("Roots of %v: %v", c.p, r)
			}
		}
	}
}

func TestNext(t *testing.T) {
	p := mustProduct(t, whole(1, 1), whole(1, 1), whole(-2, 1))
	part := whole(-2, -1, 1)
	large := []api.Rat{q(-1, 999999999989), q(1, 999999999961), q(1, 999999999959)} // the roots are near -1.6 and 0.6
	for _, c := range []struct {
		p     []api.Rat
		x     api.Rat
		part  []api.Rat
		k     int
		found bool
		err   api.Errno
	}{
		{p, q(-api.MaxNum, 1), part, 0, true, api.OK},
		{p, q(-2, 1), part, 0, true, api.OK},
		{p, q(-1, 1), part, 1, true, api.OK}, // greater, not equal
		{p, q(0, 1), part, 1, true, api.OK},
		{p, q(1999999, 1000000), part, 1, true, api.OK},
		{p, q(2, 1), nil, 0, false, api.OK},
		{p, q(api.MaxNum, 1), nil, 0, false, api.OK},
		{whole(1, 0, 1), q(-api.MaxNum, 1), nil, 0, false, api.OK},
		{whole(3), q(0, 1), nil, 0, false, api.OK},
		{nil, q(0, 1), nil, 0, false, api.ErrNone},
		{large, q(0, 1), nil, 0, false, api.ErrLarge},
		{large, q(1, 1), nil, 0, false, api.OK},
	} {
		r, found, e := Next(c.p, c.x)
		if !slices.Equal(r.P, c.part) || r.K != c.k || found != c.found || e != c.err {
			t.Errorf("Next of %v, %v: %v %v %v", c.p, c.x, r, found, e)
		}
	}
}

func TestOf(t *testing.T) {
	for _, c := range []struct {
		x    api.Rat
		want []api.Rat
		err  api.Errno
	}{
		{q(0, 1), whole(0, 1), api.OK},
		{q(3, 1), whole(-3, 1), api.OK},
		{q(-3, 2), whole(3, 2), api.OK},
		{q(api.MaxNum, 1), whole(-api.MaxNum, 1), api.OK},
		{q(-1, api.MaxNum), whole(1, api.MaxNum), api.OK},
		{q(2, 4), nil, api.ErrArg},
		{q(1, 0), nil, api.ErrArg},
		{api.Rat{}, nil, api.ErrArg},
	} {
		r, e := Of(c.x)
		if !slices.Equal(r.P, c.want) || r.K != 0 || e != c.err {
			t.Errorf("Of %v: %v %v", c.x, r, e)
		}
		if e != api.OK {
			continue
		}
		if x, is, e := Rational(r); x != c.x || !is || e != api.OK {
			t.Errorf("Rational of Of %v: %v %v %v", c.x, x, is, e)
		}
	}
}

// wilkinson is the product of t - 1 to t - 12.
func wilkinson(t *testing.T) []api.Rat {
	p := whole(1)
	for n := 1; n <= 12; n++ {
		p = mustProduct(t, p, whole(-n, 1))
	}
	return p
}

// near has two roots that are less than 1/10^38 apart, on both sides of 1/a, and two others.
func near(a int) []api.Rat {
	return sparse(12, map[int]int{0: -2, 1: 4 * a, 2: -2 * a * a})
}

// TestDescartes counts the roots of polynomials in another way.
func TestDescartes(t *testing.T) {
	r := rand.New(rand.NewSource(7))
	l := [][]api.Rat{wilkinson(t), near(3), near(1000), near(500000), whole(0, -2, 0, 1)}
	for range 150 {
		p := make([]api.Rat, 2+r.Intn(12))
		limit := []int{2, 9, 1000, api.MaxNum}[r.Intn(4)]
		for i := range p {
			p[i] = q(r.Intn(2*limit+1)-limit, 1)
		}
		p[len(p)-1].N = 1 + r.Intn(limit)
		l = append(l, p)
	}
	for _, p := range l {
		if roots, _, e := Roots(p); e != api.OK || len(roots) > 0 && len(roots[0].P) < len(p) {
			continue // not square-free: the other way would not end
		}
		for _, c := range [][2]int{{-20, 20}, {0, 1}, {-1, 0}, {0, 13}, {-api.MaxNum, api.MaxNum}} {
			want := descartes(between(p, c[0], c[1]))
			if valueOf(p, floatOf(c[1])).Sign() == 0 {
				want++
			}
			if n, e := Count(p, q(c[0], 1), q(c[1], 1)); n != want || e != api.OK {
				t.Errorf("Count of %v from %d to %d: %d %v, not %d", p, c[0], c[1], n, e, want)
			}
		}
	}
}

type wholes []*big.Int

// moved is p(t + 1).
func (p wholes) moved() wholes {
	l := slices.Clone(p)
	for i := range l {
		for j := len(l) - 2; j >= i; j-- {
			l[j] = new(big.Int).Add(l[j], l[j+1])
		}
	}
	return l
}

// between is a polynomial whose roots between 0 and 1 are those of p between a and b.
func between(p []api.Rat, a, b int) wholes {
	l := wholes{}
	for i := len(p) - 1; i >= 0; i-- { // times a + (b-a)*t, and the next coefficient
		next := make(wholes, len(l)+1)
		for j := range next {
			next[j] = new(big.Int)
			if j < len(l) {
				next[j].Mul(l[j], big.NewInt(int64(a)))
			}
			if j > 0 {
				next[j].Add(next[j], new(big.Int).Mul(l[j-1], big.NewInt(int64(b-a))))
			}
		}
		next[0].Add(next[0], big.NewInt(int64(p[i].N)))
		l = next
	}
	return l[:len(p)]
}

// descartes counts the roots between 0 and 1, for a square-free polynomial.
func descartes(p wholes) int {
	turned := slices.Clone(p)
	slices.Reverse(turned)
	n, last := 0, 0
	for _, c := range turned.moved() {
		if c.Sign()*last < 0 {
			n++
		}
		if c.Sign() != 0 {
			last = c.Sign()
		}
	}
	if n < 2 {
		return n
	}
	half := make(wholes, len(p))
	sum := new(big.Int)
	for i, c := range p { // 2^degree * p(t/2)
		half[i] = new(big.Int).Lsh(c, uint(len(p)-1-i))
		sum.Add(sum, half[i])
	}
	n = descartes(half) + descartes(half.moved())
	if sum.Sign() == 0 {
		n++
	}
	return n
}
