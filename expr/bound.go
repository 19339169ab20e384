package expr

import (
	"isocline/api"
	"isocline/rat"
	"isocline/span"
)

// Bound returns a span that holds all values for names from their ranges.
func Bound(e api.Expr, env []api.Range, g int) (api.Span, api.Errno) {
	if err := Validate(e); err != api.OK {
		return api.Span{}, err
	}
	if g < 1 || g > api.MaxGrid {
		return api.Span{}, api.ErrArg
	}
	name := func(r api.Range) string { return r.Name }
	valid := func(r api.Range) api.Errno { return span.Validate(r.X) }
	ranges, err := table(env, name, valid)
	if err != api.OK {
		return api.Span{}, err
	}
	if isCondition(e) {
		return api.Span{}, api.ErrType
	}
	return bounds{ranges, g}.of(e)
}

// bounds are the ranges of names, and the grid.
type bounds struct {
	ranges map[string]api.Range
	g      int
}

// of returns the span of a numeric expression, or the first trouble that is met.
func (b bounds) of(e api.Expr) (api.Span, api.Errno) {
	kids := e.Kids
	if e.Op == api.EIf {
		kids = kids[1:]
	}
	spans := make([]api.Span, len(kids))
	for i, k := range kids {
		x, err := b.of(k)
		if err != api.OK {
			return api.Span{}, err
		}
		spans[i] = x
	}
	switch len(spans) {
	case 0:
		return b.leaf(e)
	case 1:
		return b.single(e, spans[0])
	}
	return b.pair(e.Op, spans[0], spans[1])
}

func (b bounds) leaf(e api.Expr) (api.Span, api.Errno) {
	if e.Op == api.EConst {
		return span.Out(api.Span{Lo: e.N, Hi: e.N}, b.g)
	}
	r, ok := b.ranges[asked(e)]
	if !ok {
		return api.Span{}, api.ErrNone
	}
	return r.X, api.OK
}

// single returns the span of a node whose only kid has the span x.
func (b bounds) single(e api.Expr, x api.Span) (api.Span, api.Errno) {
	switch e.Op {
	case api.ENeg:
		return turned(x), api.OK
	case api.EAbs:
		return sizes(x), api.OK
	}
	n := e.N.N
	if n >= 0 {
		return span.Power(x, n, b.g)
	}
	below, err := span.Power(x, -n, b.g)
	if err != api.OK {
		return api.Span{}, err
	}
	one := api.Rat{N: 1, D: 1}
	return span.Div(api.Span{Lo: one, Hi: one}, below, b.g)
}

// turned returns the opposite numbers.
func turned(x api.Span) api.Span {
	x.Lo, x.Hi = x.Hi, x.Lo
	x.Lo.N, x.Hi.N = -x.Lo.N, -x.Hi.N
	return x
}

// sizes returns the least span of absolute values.
func sizes(x api.Span) api.Span {
	if x.Hi.N < 0 {
		x = turned(x)
	}
	if x.Lo.N < 0 {
		x = api.Span{Lo: api.Rat{N: 0, D: 1}, Hi: further(turned(x).Hi, x.Hi)}
	}
	return x
}

// pair returns the span of a node whose kids, of EIf those that are not asked for their truth, have the spans x and y.
func (b bounds) pair(op int, x, y api.Span) (api.Span, api.Errno) {
	switch op {
	case api.EAdd:
		return span.Add(x, y, b.g)
	case api.ESub:
		return span.Sub(x, y, b.g)
	case api.EMul:
		return span.Mul(x, y, b.g)
	case api.EDiv:
		return span.Div(x, y, b.g)
	case api.EMin:
		return api.Span{Lo: nearer(x.Lo, y.Lo), Hi: nearer(x.Hi, y.Hi)}, api.OK
	case api.EMax:
		return api.Span{Lo: further(x.Lo, y.Lo), Hi: further(x.Hi, y.Hi)}, api.OK
	}
	return span.Hull(x, y)
}

// nearer returns the lesser one of two numbers.
func nearer(x, y api.Rat) api.Rat {
	if order, _ := rat.Cmp(x, y); order > 0 { // ends of spans are numbers
		return y
	}
	return x
}

// further returns the greater one of two numbers.
func further(x, y api.Rat) api.Rat {
	if nearer(x, y) == x {
		return y
	}
	return x
}
