package root

import (
	"isocline/api"
	"isocline/exact"
)

// point is the rational number n/d, d above 0.
type point struct {
	n, d exact.Int
}

func pointOf(x api.Rat) point {
	return point{exact.NewInt(x.N), exact.NewInt(x.D)}
}

// sign returns the sign of p there.
func (x point) sign(p exact.Poly) int {
	return p.Value(x.n, x.d).Sign()
}

// gap is what lies between low/under and high/under, under above 0; or that number alone, if low is high.
type gap struct {
	low, high, under exact.Int
}

func (g gap) first() point {
	return point{g.low, g.under}
}

func (g gap) last() point {
	return point{g.high, g.under}
}

func (g gap) middle() point {
	return point{g.low.Add(g.high), g.under.Add(g.under)}
}

// lower returns the half below the middle.
func (g gap) lower() gap {
	mid := g.middle()
	return gap{g.low.Add(g.low), mid.n, mid.d}
}

// upper returns the half above the middle.
func (g gap) upper() gap {
	mid := g.middle()
	return gap{mid.n, g.high.Add(g.high), mid.d}
}

func (g gap) isPoint() bool {
	return g.low.Cmp(g.high) == 0
}

// place is where a root of the polynomial of a chain is: its gap holds no other root, and its ends are not roots,
// unless they are both this root.
type place struct {
	chain
	gap
}

// place returns where the root is.
func (r number) place() place {
	p := r.chain[0]
	high := r.reach()
	g := gap{high.Neg(), high, exact.NewInt(1)}
	before, through := 0, r.total() // how many roots are up to the low end, and up to the high one
search:
	for through-before > 1 || g.first().sign(p) == 0 {
		mid := g.middle()
		n := r.upTo(mid)
		switch {
		case n <= r.k:
			g, before = g.upper(), n
		case n == r.k+1 && mid.sign(p) == 0:
			g = gap{mid.n, mid.n, mid.d}
			break search
		default:
			g, through = g.lower(), n
		}
	}
	return place{r.chain, g}
}

// narrowed returns the place with half of the gap, or with the root itself.
func (p place) narrowed() place {
	mid := p.middle()
	switch mid.sign(p.chain[0]) {
	case 0:
		p.gap = gap{mid.n, mid.n, mid.d}
	case p.first().sign(p.chain[0]):
		p.gap = p.upper()
	default:
		p.gap = p.lower()
	}
	return p
}

// sign returns the sign of q at the root.
// The remainders of a polynomial and of its derivative times q lose a change of sign along the gap for each root at which
// q is above 0, and gain one for each at which it is below 0: the gap need not be so narrow that q has no root in it.
func (p place) sign(q exact.Poly) int {
	if p.isPoint() {
		return p.first().sign(q)
	}
	whole := p.chain[0]
	_, _, rest := whole.Derive().Mul(q).Div(whole)
	row := whole.Remainders(rest)
	return changes(row, p.first().sign) - changes(row, p.last().sign)
}
