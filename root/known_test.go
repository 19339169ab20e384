package root

import (
	"math/big"
	"math/rand"
	"slices"
	"testing"

	"isocline/api"
	"isocline/poly"
)

// probes are numbers at, near and between small roots.
func probes() []api.Rat {
	var l []api.Rat
	for n := -10; n <= 10; n++ {
		l = append(l, q(n, 1), q(2*n+1, 2), q(4*n+1, 16))
	}
	return append(l, q(7071, 5000), q(api.MaxNum, 1), q(-api.MaxNum, 1), q(1, api.MaxNum))
}

func TestKnownRoots(t *testing.T) {
	r := rand.New(rand.NewSource(1))
	for range 400 {
		s := randomSample(r, 12)
		roots, times, e := Roots(s.p)
		if e != api.OK || len(roots) != len(s.real) || len(times) != len(s.real) {
			t.Fatalf("Roots of %v: %v %v %v", s.p, roots, times, e)
		}
		for k, x := range s.real {
			if !slices.Equal(roots[k].P, s.part) || roots[k].K != k || times[k] != x.times {
				t.Fatalf("Roots of %v: number %d is %v, %d times", s.p, k, roots[k], times[k])
			}
			if e := Validate(roots[k]); e != api.OK {
				t.Fatalf("Validate of %v: %v", roots[k], e)
			}
		}
		if e := Validate(api.Root{P: s.part, K: len(s.real)}); len(s.part) > 1 && e != api.ErrNone {
			t.Fatalf("Validate of a root that is not there: %v", e)
		}
	}
}

func TestKnownCounts(t *testing.T) {
	r := rand.New(rand.NewSource(2))
	l := probes()
	upTo := func(s sample, x api.Rat) int {
		n := 0
		for _, k := range s.real {
			if signOf(new(big.Float).Sub(k.at, float(x))) <= 0 {
				n++
			}
		}
		return n
	}
	for range 60 {
		s := randomSample(r, 12)
		for i, x := range l {
			n := upTo(s, x)
			next, found, e := Next(s.p, x)
			if e != api.OK || found != (n < len(s.real)) || found && (!slices.Equal(next.P, s.part) || next.K != n) {
				t.Fatalf("Next of %v, %v: %v %v %v", s.p, x, next, found, e)
			}
			y := l[(i*7+3)%len(l)]
			low, high := x, y
			if float(x).Cmp(float(y)) > 0 {
				low, high = y, x
			}
			if got, e := Count(s.p, low, high); e != api.OK || got != upTo(s, high)-upTo(s, low) {
				t.Fatalf("Count of %v from %v to %v: %d %v", s.p, low, high, got, e)
			}
			if got, e := Count(s.p, high, low); low != high && (e != api.ErrArg || got != 0) {
				t.Fatalf("Count from %v to %v: %d %v", high, low, got, e)
			}
			if got, e := Count(s.p, x, x); e != api.OK || got != 0 {
				t.Fatalf("Count from %v to itself: %d %v", x, got, e)
			}
		}
	}
}

func TestKnownOrder(t *testing.T) {
	r := rand.New(rand.NewSource(3))
	for range 60 {
		a, b := randomSample(r, 12), randomSample(r, 12)
		l, m := mustRoots(t, a.p), mustRoots(t, b.p)
		for i, x := range a.real {
			for j, y := range b.real {
				want := signOf(new(big.Float).Sub(x.at, y.at))
				if got, e := Cmp(l[i], m[j]); e != api.OK || got != want {
					t.Fatalf("Cmp of %v, %v: %d %v", l[i], m[j], got, e)
				}
				if got, e := Cmp(m[j], l[i]); e != api.OK || got != -want {
					t.Fatalf("Cmp of %v, %v: %d %v", m[j], l[i], got, e)
				}
			}
			for j := range a.real {
				if got, e := Cmp(l[i], l[j]); e != api.OK || got != signOf(floatOf(i-j)) {
					t.Fatalf("Cmp of %v, %v: %d %v", l[i], l[j], got, e)
				}
			}
			for _, o := range probes() {
				want := signOf(new(big.Float).Sub(x.at, float(o)))
				if got, e := CmpRat(l[i], o); e != api.OK || got != want {
					t.Fatalf("CmpRat of %v, %v: %d %v", l[i], o, got, e)
				}
			}
			for _, o := range [][]api.Rat{b.p, b.part, a.p, nil, whole(-3), whole(2), whole(0, 1)} {
				if got, e := Sign(o, l[i]); e != api.OK || got != signOf(valueOf(o, x.at)) {
					t.Fatalf("Sign of %v at %v: %d %v", o, l[i], got, e)
				}
			}
		}
	}
}

func TestKnownFloors(t *testing.T) {
	r := rand.New(rand.NewSource(4))
	for range 200 {
		s := randomSample(r, 12)
		roots := mustRoots(t, s.p)
		for i, x := range s.real {
			for _, g := range []int{1, 2, 3, 10, 16, 999, api.MaxGrid} {
				want, same := floorOf(new(big.Float).SetPrec(precision).Mul(x.at, floatOf(g)))
				if k, is, e := Floor(roots[i], g); e != api.OK || int64(k) != want.Int64() || is != same {
					t.Fatalf("Floor of %v, %d: %d %v %v", roots[i], g, k, is, e)
				}
			}
			if v, is, e := Rational(roots[i]); e != api.OK || is != x.rational || v != x.x {
				t.Fatalf("Rational of %v: %v %v %v", roots[i], v, is, e)
			}
		}
	}
}

func TestKnownHalves(t *testing.T) {
	r := rand.New(rand.NewSource(5))
	for range 1000 {
		s := randomSample(r, 12)
		var want [3]int
		for _, x := range s.halfs {
			want[1-signOf(x)]++
		}
		above, zero, below, e := Positive(s.p)
		if got := [3]int{above, zero, below}; e != api.OK || got != want {
			t.Fatalf("Positive of %v: %v %v, not %v", s.p, got, e, want)
		}
		n := 0
		for _, x := range s.real {
			if signOf(x.at) > 0 {
				n += x.times
			}
		}
		if v, e := Variations(s.p); e != api.OK || v < n || (v-n)%2 != 0 {
			t.Fatalf("Variations of %v: %d %v, with %d roots above 0", s.p, v, e, n)
		}
	}
}

// TestKnownValues looks for the least and the greatest value of polynomials whose slope has known roots.
func TestKnownValues(t *testing.T) {
	r := rand.New(rand.NewSource(6))
	l := probes()
	l = l[:len(l)-3]
	for range 400 {
		s := randomSample(r, 11)
		p, e := poly.Integral(s.p)
		if e != api.OK {
			continue
		}
		a, b := l[r.Intn(len(l))], l[r.Intn(len(l))]
		if float(a).Cmp(float(b)) > 0 {
			a, b = b, a
		}
		g := []int{1, 2, 7, 100, 12345}[r.Intn(5)]
		low, high := new(big.Float), new(big.Float)
		for i, x := range append(s.real, known{at: float(a)}, known{at: float(b)}) {
			if x.at.Cmp(float(a)) < 0 || x.at.Cmp(float(b)) > 0 {
				x.at = float(a)
			}
			v := new(big.Float).SetPrec(precision).Mul(valueOf(p, x.at), floatOf(g))
			if i == 0 || v.Cmp(low) < 0 {
				low = v
			}
			if i == 0 || v.Cmp(high) > 0 {
				high = v
			}
		}
		k, _ := floorOf(low)
		m, _ := floorOf(high.Neg(high))
		m.Neg(m)
		want, err := [2]int64{k.Int64(), m.Int64()}, api.OK
		if most := big.NewInt(api.MaxNum); k.CmpAbs(most) > 0 || m.CmpAbs(most) > 0 {
			want, err = [2]int64{}, api.ErrLarge
		}
		x, y, e := Least(p, a, b, g)
		if got := [2]int64{int64(x), int64(y)}; e != err || got != want {
			t.Fatalf("Least of %v from %v to %v with %d: %v %v, not %v %v", p, a, b, g, got, e, want, err)
		}
	}
}
