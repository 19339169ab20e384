package mat

import (
	"isocline/api"
	"isocline/exact"
)

// maxPower is the greatest exponent of Power.
const maxPower = 60

// Power returns the n-th power of m.
func Power(m api.Mat, n int) (api.Mat, api.Errno) {
	if e := Validate(m); e != api.OK {
		return api.Mat{}, e
	}
	if n < 0 || n > maxPower {
		return api.Mat{}, api.ErrArg
	}
	if m.R != m.C {
		return api.Mat{}, api.ErrFit
	}
	f := newField()
	for _, row := range power(f.matrix(m), n, exact.Unit(m.R), f.mul) {
		for _, r := range row {
			if !f.isNumber(r) {
				return api.Mat{}, api.ErrLarge
			}
		}
	}
	p := power(of(m), n, fraction{exact.Unit(m.R), exact.NewInt(1)}, fraction.mul)
	return made(m.R, m.C, func(i, j int) (api.Rat, api.Errno) { return exact.Number(p.Grid[i][j], p.under) })
}

// power returns the n-th power of x; that with n = 0 is one.
func power[T any](x T, n int, one T, mul func(x, y T) T) T {
	if n == 0 {
		return one
	}
	half := power(x, n/2, one, mul)
	p := mul(half, half)
	if n%2 != 0 {
		p = mul(p, x)
	}
	return p
}

// fraction is a square matrix without a limit: whole numbers over a common denominator.
type fraction struct {
	exact.Grid
	under exact.Int
}

// of returns m, which is square.
func of(m api.Mat) fraction {
	whole, under := exact.Share(m.V)
	g := make(exact.Grid, m.R)
	for i := range g {
		g[i] = whole[i*m.C : (i+1)*m.C : (i+1)*m.C]
	}
	return fraction{g, under}
}

// mul returns f * g in lowest terms: a power of a matrix can be much shorter than the powers of its numbers.
func (f fraction) mul(g fraction) fraction {
	p, under := f.Grid.Mul(g.Grid), f.under.Mul(g.under)
	common := under
	for _, row := range p {
		for _, x := range row {
			common = common.Gcd(x)
		}
	}
	return fraction{p.Each(func(x exact.Int) exact.Int { return x.Quo(common) }), under.Quo(common)}
}
