package root

import (
	"cmp"
	"slices"
	"sort"

	"isocline/api"
	"isocline/exact"
	"isocline/poly"
	"isocline/rat"
)

// number is the real root number k of the polynomial of a chain.
type number struct {
	chain
	k int
}

// against returns -1, 0 or 1 as the root is less than, equal to or greater than x.
func (r number) against(x point) int {
	n := r.upTo(x)
	switch {
	case n <= r.k:
		return 1
	case n == r.k+1 && x.sign(r.chain[0]) == 0:
		return 0
	default:
		return -1
	}
}

// times returns how often the root stands in a polynomial, by what repeated returns of it.
func (r number) times(again []exact.Poly) int {
	n := 1
	if len(again) == 0 {
		return n
	}
	at := r.place()
	for _, p := range again {
		if at.sign(p) == 0 {
			n++
		}
	}
	return n
}

// floor returns the greatest integer k such that k/g is at most the root, and whether it is the root.
// The quotient of g by the last coefficient of the polynomial is at most MaxGrid: so an int has room for what is searched.
func (r number) floor(g int) (int, bool) {
	under := exact.NewInt(g)
	reach, _ := r.reach().Small()
	bound := int(reach) * g // the root is between -bound/g and bound/g
	steps := sort.Search(2*bound-1, func(i int) bool {
		return r.against(point{exact.NewInt(1 + i - bound), under}) < 0
	})
	k := steps - bound
	return k, r.against(point{exact.NewInt(k), under}) == 0
}

// Cmp returns -1, 0 or 1 as r is less than, equal to or greater than s.
func Cmp(r, s api.Root) (int, api.Errno) {
	c := make(chains)
	a, e := c.number(r)
	if e != api.OK {
		return 0, e
	}
	b, e := c.number(s)
	if e != api.OK {
		return 0, e
	}
	if slices.Equal(r.P, s.P) {
		return cmp.Compare(r.K, s.K), api.OK
	}
	return a.compare(b.place()), api.OK
}

// compare returns -1, 0 or 1 as r is less than, equal to or greater than the root at s.
func (r number) compare(s place) int {
	if s.isPoint() {
		return r.against(s.first())
	}
	if r.against(s.first()) <= 0 {
		return -1
	}
	if r.against(s.last()) >= 0 {
		return 1
	}
	// Within its gap, the polynomial of s has the sign of the low end up to its root, and the other one behind it.
	p := s.chain[0]
	return -s.first().sign(p) * r.place().sign(p)
}

// CmpRat returns -1, 0 or 1 as r is less than, equal to or greater than x.
func CmpRat(r api.Root, x api.Rat) (int, api.Errno) {
	a, e := make(chains).number(r)
	if e != api.OK {
		return 0, e
	}
	if e := rat.Validate(x); e != api.OK {
		return 0, e
	}
	return a.against(pointOf(x)), api.OK
}

// Sign returns the sign of q at r: -1, 0 or 1.
func Sign(q []api.Rat, r api.Root) (int, api.Errno) {
	if e := poly.Validate(q); e != api.OK {
		return 0, e
	}
	a, e := make(chains).number(r)
	if e != api.OK {
		return 0, e
	}
	whole, _ := exact.Common(q)
	return a.place().sign(whole), api.OK
}

// Floor returns the greatest integer k such that k/g is at most r, and whether k/g is r.
func Floor(r api.Root, g int) (int, bool, api.Errno) {
	a, e := make(chains).number(r)
	if e != api.OK {
		return 0, false, e
	}
	if g < 1 || g > api.MaxGrid {
		return 0, false, api.ErrArg
	}
	k, same := a.floor(g)
	if k < -api.MaxNum || k > api.MaxNum {
		return 0, false, api.ErrLarge
	}
	return k, same, api.OK
}

// Rational returns r as a number, and true, if it is rational.
func Rational(r api.Root) (api.Rat, bool, api.Errno) {
	a, e := make(chains).number(r)
	if e != api.OK {
		return api.Rat{}, false, e
	}
	// The denominator of a rational root divides the last coefficient.
	g := r.P[len(r.P)-1].N
	k, same := a.floor(g)
	if !same {
		return api.Rat{}, false, api.OK
	}
	x, e := rat.Make(k, g)
	return x, e == api.OK, e
}
