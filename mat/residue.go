package mat

import (
	"isocline/api"
	"isocline/exact"
)

// field has the whole numbers modulo a prime that is above all denominators, so that each number has a residue. The
// prime is above 2 * MaxNum * MaxNum: two representable numbers have different residues. What is representable, and
// what is independent, can so be told, mostly, without the long numbers that powers of a matrix have.
type field struct {
	prime exact.Int
}

func newField() field {
	return field{exact.NewInt(2).Power(89).Sub(exact.NewInt(1))}
}

// mod returns the residue of a whole number.
func (f field) mod(x exact.Int) exact.Int {
	return x.Sub(x.Floor(f.prime).Mul(f.prime))
}

// descend returns the first remainder that is at most most among those of the prime and r, a residue, and a whole number
// times which r has this residue.
func (f field) descend(r, most exact.Int) (rest, factor exact.Int) {
	before, beforeBy := f.prime, exact.NewInt(0)
	rest, factor = r, exact.NewInt(1)
	for rest.Cmp(most) > 0 {
		k := before.Quo(rest)
		before, rest = rest, before.Sub(k.Mul(rest))
		beforeBy, factor = factor, beforeBy.Sub(k.Mul(factor))
	}
	return rest, factor
}

// inverse returns the residue of 1 / r; r is not 0.
func (f field) inverse(r exact.Int) exact.Int {
	_, by := f.descend(r, exact.NewInt(1))
	return f.mod(by)
}

// number returns the residue of x.
func (f field) number(x api.Rat) exact.Int {
	return f.mod(exact.NewInt(x.N).Mul(f.inverse(exact.NewInt(x.D))))
}

// isNumber reports whether r is the residue of a representable number.
func (f field) isNumber(r exact.Int) bool {
	most := exact.NewInt(api.MaxNum)
	_, under := f.descend(r, most)
	return under.Abs().Cmp(most) <= 0
}

// matrix returns the residues of the numbers of m.
func (f field) matrix(m api.Mat) exact.Grid {
	g := make(exact.Grid, m.R)
	for i := range g {
		for _, x := range (view{m}).row(i) {
			g[i] = append(g[i], f.number(x))
		}
	}
	return g
}

func (f field) mul(g, h exact.Grid) exact.Grid {
	return g.Mul(h).Each(f.mod)
}
