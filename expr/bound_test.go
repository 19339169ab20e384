package expr

import (
	"math"
	"testing"

	"isocline/api"
	"isocline/span"
)

// from is a span of whole numbers.
func from(lo, hi int) api.Span { return api.Span{Lo: q(lo, 1), Hi: q(hi, 1)} }

// ranges are ranges by texts of names and whole numbers.
func ranges(l ...any) []api.Range {
	var env []api.Range
	for i := 0; i < len(l); i += 3 {
		env = append(env, api.Range{Name: l[i].(string), X: from(l[i+1].(int), l[i+2].(int))})
	}
	return env
}

func TestBound(t *testing.T) {
	env := append(ranges("x", 0, 1, "y", -2, 3, "z", 2, 4, "n", -5, -3, "der(x)", 7, 8, "pre(x)", 9, 10),
		api.Range{Name: "h", X: api.Span{Lo: q(1, 7), Hi: q(1, 3)}}, api.Range{Name: "p", X: from(5, 5)})
	for s, want := range map[string]api.Span{
		"x*(1-x)": from(0, 1), "x": from(0, 1), "der(x)": from(7, 8), "pre(x)": from(9, 10), "p": from(5, 5), "h": {Lo: q(1, 7), Hi: q(1, 3)},
		"3": from(3, 3), "1/3": {Lo: q(3, 10), Hi: q(2, 5)}, "-1/3": {Lo: q(-2, 5), Hi: q(-3, 10)}, "-h": {Lo: q(-1, 3), Hi: q(-1, 7)}, "-y": from(-3, 2), "abs(h)": {Lo: q(1, 7), Hi: q(1, 3)},
		"abs(y)": from(0, 3), "abs(-y)": from(0, 3), "abs(n)": from(3, 5), "abs(z)": from(2, 4), "abs(-h)": {Lo: q(1, 7), Hi: q(1, 3)}, "abs(x)": from(0, 1), "abs(-x)": from(0, 1), "abs(y-2)": from(0, 4),
		"x+y": from(-2, 4), "x-y": from(-3, 3), "y*z": from(-8, 12), "y/z": {Lo: q(-1, 1), Hi: q(3, 2)}, "h+0": {Lo: q(1, 10), Hi: q(2, 5)}, "1/z": {Lo: q(1, 5), Hi: q(1, 2)},
		"y^2": from(0, 9), "y^3": from(-8, 27), "y^0": from(1, 1), "z^-1": {Lo: q(1, 5), Hi: q(1, 2)}, "n^-2": {Lo: q(0, 1), Hi: q(1, 5)}, "h^2": {Lo: q(0, 1), Hi: q(1, 5)}, "h^1": {Lo: q(1, 10), Hi: q(2, 5)},
		"z^-6": {Lo: q(0, 1), Hi: q(1, 10)}, "min(y,z)": from(-2, 3), "max(y,z)": from(2, 4), "min(h,1/2)": {Lo: q(1, 7), Hi: q(1, 3)}, "max(x,h)": {Lo: q(1, 7), Hi: q(1, 1)}, "min(x,p)": from(0, 1),
		"if x<y then x else z": from(0, 4), "if none<1/0 then z else x": from(0, 4), "if none<1 then h else h": {Lo: q(1, 7), Hi: q(1, 3)}, "(if x<y then 1 else 3)*n": from(-15, -3),
		"x-x": from(-1, 1), "y*y": from(-6, 9),
	} {
		if x, err := Bound(parse(t, s), env, 10); x != want || err != api.OK {
			t.Errorf("Bound of %s: %v %v, not %v", s, x, err, want)
		}
	}
}

func TestBoundErrors(t *testing.T) {
	env := ranges("x", 0, 1, "y", -2, 3, "m", api.MaxNum, api.MaxNum)
	for s, want := range map[string]api.Errno{
		"z": api.ErrNone, "der(x)": api.ErrNone, "pre(x)": api.ErrNone, "1/x": api.ErrNone, "1/y": api.ErrNone, "x^-1": api.ErrNone, "y^-2": api.ErrNone, "1/0": api.ErrNone, "1/(1-x)": api.ErrNone,
		"m*2": api.ErrLarge, "m+x": api.ErrLarge, "-m-1": api.ErrLarge, "m^2": api.ErrLarge, "m*m-m*m": api.ErrLarge, "0*m": api.OK, "1/m": api.OK, "m+x+z": api.ErrLarge, "z+(m+x)": api.ErrNone,
		"1/x+m*m": api.ErrNone, "m*m+1/x": api.ErrLarge, "min(m*m,z)": api.ErrLarge, "min(z,m*m)": api.ErrNone, "if z<1 then x else y": api.OK, "if x<1 then z else m*m": api.ErrNone, "if x<1 then m*m else z": api.ErrLarge,
		"if x<2 then x else z": api.ErrNone, "m^-2": api.ErrLarge, "m^0": api.OK, "m^-1": api.OK, "x<y": api.ErrType, "z<1": api.ErrType, "not 1/x<1": api.ErrType,
	} {
		if x, err := Bound(parse(t, s), env, 10); err != want || err != api.OK && x != (api.Span{}) {
			t.Errorf("Bound of %s: %v %v, not %v", s, x, err, want)
		}
	}
	if x, err := Bound(name("m"), env, 7); x != env[2].X || err != api.OK {
		t.Errorf("Bound of a name: %v %v", x, err)
	}
	if x, err := Bound(fixed(q(999999999999, 1000000000000)), nil, 999999); x != (api.Span{Lo: q(999998, 999999), Hi: q(1, 1)}) || err != api.OK {
		t.Errorf("Bound of a number: %v %v", x, err)
	}
	many := make([]api.Range, api.MaxRow+1)
	for i := range many {
		many[i] = api.Range{Name: string(rune('a' + i)), X: from(0, 1)}
	}
	x := name("a")
	turned := append(many[1:2:2], many[1], many[1], api.Range{Name: "a", X: from(1, 0)})
	wrong := append(many[1:2:2], many[1], api.Range{Name: "a", X: api.Span{Lo: q(0, 1), Hi: q(2, 2)}})
	for _, c := range []struct {
		e    api.Expr
		env  []api.Range
		g    int
		want api.Errno
	}{
		{x, many[:api.MaxRow], 1, api.OK}, {x, many, 1, api.ErrLarge}, {x, append(many[:1:1], many...), 1, api.ErrLarge}, {x, append(turned, many...), 1, api.ErrLarge},
		{x, turned, 1, api.ErrArg}, {x, wrong, 1, api.ErrArg}, {x, append(many[:2:2], many[1]), 1, api.ErrTwice},
		{x, many, 0, api.ErrArg}, {x, turned, -1, api.ErrArg}, {x, append(many[:2:2], many[1]), api.MaxGrid + 1, api.ErrArg}, {x, many[:1], math.MinInt, api.ErrArg}, {x, many[:1], math.MaxInt, api.ErrArg},
		{x, many[:1], api.MaxGrid, api.OK}, {x, nil, 1, api.ErrNone}, {api.Expr{}, many, 0, api.ErrArg}, {chainOf(13), turned, 0, api.ErrLarge},
		{node(api.ELess, x, x), many[:1], 0, api.ErrArg}, {node(api.ELess, x, x), many, 1, api.ErrLarge}, {node(api.ELess, x, x), append(many[:2:2], many[1]), 1, api.ErrTwice},
		{node(api.ELess, x, x), nil, 1, api.ErrType}, {node(api.ENot, x), many, 0, api.ErrType},
	} {
		if x, err := Bound(c.e, c.env, c.g); err != c.want || err != api.OK && x != (api.Span{}) {
			t.Errorf("Bound of %v in %d ranges, %d: %v %v, not %v", c.e, len(c.env), c.g, x, err, c.want)
		}
	}
}

// enclosure is Bound, step by step with span's functions, as the document says.
func enclosure(e api.Expr, env map[string]api.Span, g int) (api.Span, api.Errno) {
	kids := e.Kids
	if e.Op == api.EIf {
		kids = kids[1:]
	}
	var l []api.Span
	for _, k := range kids {
		x, err := enclosure(k, env, g)
		if err != api.OK {
			return x, err
		}
		l = append(l, x)
	}
	negative := func(x api.Rat) api.Rat { return q(-x.N, x.D) }
	above := func(x, y api.Rat) bool { return toBig(x).Cmp(toBig(y)) > 0 }
	switch e.Op {
	case api.EConst:
		return span.Out(api.Span{Lo: e.N, Hi: e.N}, g)
	case api.EName, api.EDer, api.EPre:
		s, _ := Names(e)
		x, ok := env[s[0]]
		if !ok {
			return x, api.ErrNone
		}
		return x, api.OK
	case api.ENeg:
		return api.Span{Lo: negative(l[0].Hi), Hi: negative(l[0].Lo)}, api.OK
	case api.EAbs:
		a, b := q(max(l[0].Lo.N, -l[0].Lo.N), l[0].Lo.D), q(max(l[0].Hi.N, -l[0].Hi.N), l[0].Hi.D)
		if above(a, b) {
			a, b = b, a
		}
		if l[0].Lo.N <= 0 && l[0].Hi.N >= 0 {
			a = q(0, 1)
		}
		return api.Span{Lo: a, Hi: b}, api.OK
	case api.EAdd:
		return span.Add(l[0], l[1], g)
	case api.ESub:
		return span.Sub(l[0], l[1], g)
	case api.EMul:
		return span.Mul(l[0], l[1], g)
	case api.EDiv:
		return span.Div(l[0], l[1], g)
	case api.EPow:
		if e.N.N >= 0 {
			return span.Power(l[0], e.N.N, g)
		}
		x, err := span.Power(l[0], -e.N.N, g)
		if err != api.OK {
			return x, err
		}
		return span.Div(from(1, 1), x, g)
	case api.EMin, api.EMax:
		x := l[0]
		if above(x.Lo, l[1].Lo) == (e.Op == api.EMin) {
			x.Lo = l[1].Lo
		}
		if above(x.Hi, l[1].Hi) == (e.Op == api.EMin) {
			x.Hi = l[1].Hi
		}
		return x, api.OK
	}
	return span.Hull(l[0], l[1])
}

// TestBoundValues holds bounds against the steps, and against values within the ranges.
func TestBoundValues(t *testing.T) {
	m := newMaker(14, allOps)
	held := 0
	for i := range 20000 {
		m.numbers = smallNumber
		if i%4 == 0 {
			m.numbers = wideNumber
		}
		e := m.any(6)
		if isCondition(e) {
			continue
		}
		var env []api.Range
		var at []api.Bind
		known := map[string]api.Span{}
		for _, b := range m.environment() {
			other := m.numbers(m.r)
			x := api.Span{Lo: b.V, Hi: other}
			if toBig(x.Lo).Cmp(toBig(x.Hi)) > 0 {
				x = api.Span{Lo: other, Hi: b.V}
			}
			env, at, known[b.Name] = append(env, api.Range{Name: b.Name, X: x}), append(at, b), x
		}
		g := []int{1, 2, 10, 1000, api.MaxGrid}[m.r.Intn(5)]
		want, err := enclosure(e, known, g)
		if err != api.OK {
			want = api.Span{}
		}
		got, e2 := Bound(e, env, g)
		if got != want || e2 != err {
			t.Fatalf("Bound of %v in %v, %d: %v %v, not %v %v", e, env, g, got, e2, want, err)
		}
		if v, e3 := Value(e, at); err == api.OK && e3 == api.OK {
			held++
			if in, _ := span.In(got, v); !in {
				t.Fatalf("Bound of %v in %v: %v does not hold %v", e, env, got, v)
			}
		}
	}
	if held < 5000 {
		t.Errorf("only %d values", held)
	}
}
