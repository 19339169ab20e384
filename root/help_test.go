package root

import (
	"math/big"
	"math/rand"
	"slices"
	"testing"

	"isocline/api"
	"isocline/poly"
)

func q(n, d int) api.Rat { return api.Rat{N: n, D: d} }

// whole is a polynomial with whole coefficients, the constant term first.
func whole(l ...int) []api.Rat {
	p := make([]api.Rat, len(l))
	for i, n := range l {
		p[i] = q(n, 1)
	}
	return p
}

// sparse is a polynomial of this degree with these coefficients and noughts, and a last coefficient of 1.
func sparse(degree int, coefficients map[int]int) []api.Rat {
	l := make([]int, degree+1)
	l[degree] = 1
	for i, n := range coefficients {
		l[i] = n
	}
	return whole(l...)
}

// product is the product of the polynomials; ok is false if it is not representable.
func product(l ...[]api.Rat) (p []api.Rat, ok bool) {
	p = whole(1)
	for _, o := range l {
		r, e := poly.Mul(p, o)
		if e != api.OK {
			return nil, false
		}
		p = r
	}
	return p, true
}

func mustProduct(t *testing.T, l ...[]api.Rat) []api.Rat {
	t.Helper()
	p, ok := product(l...)
	if !ok {
		t.Fatalf("no product of %v", l)
	}
	return p
}

func mustRoots(t *testing.T, p []api.Rat) []api.Root {
	t.Helper()
	l, _, e := Roots(p)
	if e != api.OK {
		t.Fatalf("Roots of %v: %v", p, e)
	}
	return l
}

// precision is that of the floating-point numbers by which the tests know irrational roots.
const precision = 1200

func float(x api.Rat) *big.Float {
	return new(big.Float).SetPrec(precision).Quo(floatOf(x.N), floatOf(x.D))
}

func floatOf(n int) *big.Float {
	return new(big.Float).SetPrec(precision).SetInt64(int64(n))
}

// isNil reports whether x is 0, but for the error of floating-point numbers.
func isNil(x *big.Float) bool {
	return x.Sign() == 0 || x.MantExp(nil) < -precision/2
}

func signOf(x *big.Float) int {
	if isNil(x) {
		return 0
	}
	return x.Sign()
}

// valueOf is the value of p at x.
func valueOf(p []api.Rat, x *big.Float) *big.Float {
	v := floatOf(0)
	for i := len(p) - 1; i >= 0; i-- {
		v.Mul(v, x)
		v.Add(v, float(p[i]))
	}
	return v
}

// floorOf is the greatest integer that is at most x, and whether it is x.
func floorOf(x *big.Float) (*big.Int, bool) {
	half := new(big.Float).SetPrec(precision).SetFloat64(0.5)
	near, _ := new(big.Float).SetPrec(precision).Add(x, half).Int(nil)
	if x.Sign() < 0 {
		near, _ = new(big.Float).SetPrec(precision).Sub(x, half).Int(nil)
	}
	rest := new(big.Float).SetPrec(precision).Sub(x, new(big.Float).SetPrec(precision).SetInt(near))
	if signOf(rest) < 0 {
		near.Sub(near, big.NewInt(1))
	}
	return near, isNil(rest)
}

// known is a real root that the tests know, and what is known of it.
type known struct {
	at       *big.Float
	x        api.Rat
	rational bool
	times    int
}

// factor is an irreducible polynomial with all that the tests know about its roots.
type factor struct {
	p     []api.Rat
	real  []known
	halfs []*big.Float // the real parts of all complex roots
}

func line(n, d int) factor {
	x := q(n, d)
	return factor{whole(-n, d), []known{{float(x), x, true, 0}}, []*big.Float{float(x)}}
}

// square is (d*t - u)^2 - v, for v that is no square, or is below 0.
func square(u, v, d int) factor {
	f := factor{p: whole(u*u-v, -2*u*d, d*d)}
	if v < 0 {
		f.halfs = []*big.Float{float(q(u, d)), float(q(u, d))}
		return f
	}
	s := floatOf(v)
	s.Sqrt(s)
	for _, side := range []int{-1, 1} {
		x := floatOf(side)
		x.Mul(x, s).Add(x, floatOf(u)).Quo(x, floatOf(d))
		f.real = append(f.real, known{at: x})
		f.halfs = append(f.halfs, x)
	}
	return f
}

// cube is t^3 - v, for v that is no cube.
func cube(v int) factor {
	x := floatOf(v)
	three := floatOf(3)
	for range 30 { // Newton's steps from v itself: each has twice as many right digits
		s := new(big.Float).SetPrec(precision).Mul(x, x)
		s.Quo(floatOf(v), s)
		x = new(big.Float).SetPrec(precision).Add(x, x)
		x.Add(x, s).Quo(x, three)
	}
	half := new(big.Float).SetPrec(precision).Quo(x, floatOf(-2))
	return factor{whole(-v, 0, 0, 1), []known{{at: x}}, []*big.Float{x, half, half}}
}

// randomFactor is one of few, so that two polynomials often have one in common.
func randomFactor(r *rand.Rand) factor {
	switch r.Intn(7) {
	case 0, 1, 2:
		return line(r.Intn(9)-4, 1)
	case 3:
		return line([]int{-7, -1, 1, 3, 5}[r.Intn(5)], []int{2, 4, 8, 16}[r.Intn(4)])
	case 4:
		return square(r.Intn(7)-3, []int{2, 3, 5, 7}[r.Intn(4)], 1+r.Intn(2))
	case 5:
		return square(r.Intn(3)-1, -1-r.Intn(4), 1)
	default:
		return cube([]int{2, -3, 5, -6}[r.Intn(4)])
	}
}

// sample is a polynomial with all that the tests know about its roots.
type sample struct {
	p, part []api.Rat // part is the primitive square-free part
	real    []known
	halfs   []*big.Float
}

// randomSample multiplies random factors, some of them several times.
func randomSample(r *rand.Rand, degree int) sample {
	s := sample{p: []api.Rat{q([]int{1, -1, 5, -3}[r.Intn(4)], 1+r.Intn(3)/2*6)}, part: whole(1)}
	var met [][]api.Rat
	for range 1 + r.Intn(6) {
		f := randomFactor(r)
		times := 1 + max(r.Intn(6)-2, 0)
		if slices.ContainsFunc(met, func(p []api.Rat) bool { return slices.Equal(p, f.p) }) {
			continue
		}
		p, ok := product(append(slices.Repeat([][]api.Rat{f.p}, times), s.p)...)
		if !ok || len(p) > degree+1 {
			continue
		}
		s.p = p
		s.part, _ = product(s.part, f.p)
		met = append(met, f.p)
		for _, k := range f.real {
			k.times = times
			s.real = append(s.real, k)
		}
		s.halfs = append(s.halfs, slices.Repeat(f.halfs, times)...)
	}
	s.part, _, _ = poly.Primitive(s.part)
	slices.SortFunc(s.real, func(a, b known) int { return a.at.Cmp(b.at) })
	return s
}
