package span

import (
	"sort"

	"isocline/api"
	"isocline/exact"
	"isocline/root"
)

// Image returns the least span with ends on the grid that holds all values of p on x.
func Image(p []api.Rat, x api.Span, g int) (api.Span, api.Errno) {
	if e := polyErrors(p, x, g); e != api.OK {
		return api.Span{}, e
	}
	k, l, e := root.Least(p, x.Lo, x.Hi, g)
	if e != api.OK {
		// k/g may be a number though k is above what root.Least returns.
		k, l, e = steps(p, x, g)
	}
	if e != api.OK {
		return api.Span{}, e
	}
	under := exact.NewInt(g)
	return ends{exact.NewRatio(exact.NewInt(k), under), exact.NewRatio(exact.NewInt(l), under)}.span()
}

// steps returns the greatest integer k such that k/g is at most every value of p on x, and the least one l such that
// l/g is at least every value: ErrLarge only if k/g or l/g is beyond all numbers.
func steps(p []api.Rat, x api.Span, g int) (int, int, api.Errno) {
	floor, ceiling, e := root.Least(p, x.Lo, x.Hi, 1)
	if e != api.OK {
		return 0, 0, e
	}
	whole, under := exact.Common(p)
	low := values{whole.Scale(exact.NewInt(g)), under, of(x)}
	high := values{low.Scale(exact.NewInt(-1)), under, of(x)}
	return low.floor(floor*g, g), -high.floor(-ceiling*g, g), api.OK
}

// values are those of a polynomial with whole coefficients over a denominator above 0, on a span.
type values struct {
	exact.Poly
	under exact.Int
	on    ends
}

// floor returns the greatest integer that is at most all values; it is from first up, and less than first + n.
func (v values) floor(first, n int) int {
	return first + sort.Search(n-1, func(i int) bool {
		next := exact.NewInt(first + i + 1).Mul(v.under)
		return v.Sub(exact.NewPoly([]exact.Int{next})).Dips(v.on[0], v.on[1])
	})
}
