package span

import (
	"isocline/api"
	"isocline/exact"
)

// Horner returns what Horner's scheme makes of x, rounded outward in each step: ErrLarge at the first step that has it.
func Horner(p []api.Rat, x api.Span, g int) (api.Span, api.Errno) {
	if e := polyErrors(p, x, g); e != api.OK {
		return api.Span{}, e
	}
	y, e := horner(coefficients(p), of(x), g)
	if e != api.OK {
		return api.Span{}, e
	}
	return y.span()
}

// coefficients returns those of p, without a limit.
func coefficients(p []api.Rat) []exact.Ratio {
	l := make([]exact.Ratio, len(p))
	for i, c := range p {
		l[i] = exact.Of(c)
	}
	return l
}

// derived returns the coefficients of the derivative.
func derived(p []exact.Ratio) []exact.Ratio {
	var l []exact.Ratio
	for i := 1; i < len(p); i++ {
		l = append(l, p[i].Mul(exact.Whole(i)))
	}
	return l
}

// horner is Horner for coefficients without a limit; those of its spans that it returns and hands on are representable.
func horner(p []exact.Ratio, x ends, g int) (ends, api.Errno) {
	y := point(exact.Whole(0))
	for i := len(p) - 1; i >= 0; i-- {
		y = y.times(x).outward(g)
		if _, e := y.span(); e != api.OK {
			return ends{}, e
		}
		y = y.plus(point(p[i])).outward(g)
		if _, e := y.span(); e != api.OK {
			return ends{}, e
		}
	}
	return y, api.OK
}

// value returns the value at x, exactly.
func value(p []exact.Ratio, x exact.Ratio) exact.Ratio {
	y := exact.Whole(0)
	for i := len(p) - 1; i >= 0; i-- {
		y = y.Mul(x).Add(p[i])
	}
	return y
}

// What Newton tells of the roots in a span.
const (
	open   = 0 // the step can't be done
	within = 1 // they are in the result
	single = 2 // there is just one, and it is in the result
	absent = 3 // there is none
)

// Newton does one step toward the roots of p in x, and tells what it has found out about them: ErrNone if p is zero.
func Newton(p []api.Rat, x api.Span, g int) (api.Span, int, api.Errno) {
	if e := polyErrors(p, x, g); e != api.OK {
		return api.Span{}, 0, e
	}
	if len(p) == 0 {
		return api.Span{}, 0, api.ErrNone
	}
	whole, l := of(x), coefficients(p)
	slope, e := horner(derived(l), whole, g)
	if e != api.OK {
		return api.Span{}, 0, e
	}
	if slope.hold(exact.Whole(0)) {
		return x, open, api.OK
	}
	middle := whole.middle()
	next := point(middle).minus(point(value(l, middle)).over(slope)).outward(g)
	both, some := whole.meet(next)
	if !some {
		return api.Span{}, absent, api.OK
	}
	// Only what is returned has to be representable, not an end of next outside x.
	s, e := both.span()
	if e != api.OK {
		return api.Span{}, 0, e
	}
	if next[0].Cmp(whole[0]) > 0 && next[1].Cmp(whole[1]) < 0 {
		return s, single, api.OK
	}
	return s, within, api.OK
}
