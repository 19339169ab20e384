package span

import (
	"math"
	"reflect"
	"slices"
	"testing"

	"isocline/api"
	"isocline/poly"
	"isocline/rat"
)

// arguments are those of all functions, in one form.
type arguments struct {
	p    []api.Rat
	x, y api.Span
	v    api.Rat
	n, g int
}

// outcome is all that a call returns.
type outcome struct {
	x, y api.Span
	is   bool
	n    int
	err  api.Errno
}

// call is a function with a text that tells the order of its arguments by their names in arguments.
type call struct {
	name, order string
	of          func(a arguments) outcome
}

func calls() []call {
	pair := func(of operation) func(a arguments) outcome {
		return func(a arguments) outcome {
			x, e := of(a.x, a.y, a.g)
			return outcome{x: x, err: e}
		}
	}
	scheme := func(of func(p []api.Rat, x api.Span, g int) (api.Span, api.Errno)) func(a arguments) outcome {
		return func(a arguments) outcome {
			x, e := of(a.p, a.x, a.g)
			return outcome{x: x, err: e}
		}
	}
	return []call{
		{"Validate", "x", func(a arguments) outcome { return outcome{err: Validate(a.x)} }},
		{"Out", "xg", func(a arguments) outcome {
			x, e := Out(a.x, a.g)
			return outcome{x: x, err: e}
		}},
		{"Add", "xyg", pair(Add)},
		{"Sub", "xyg", pair(Sub)},
		{"Mul", "xyg", pair(Mul)},
		{"Div", "xyg", pair(Div)},
		{"Power", "xng", func(a arguments) outcome {
			x, e := Power(a.x, a.n, a.g)
			return outcome{x: x, err: e}
		}},
		{"Meet", "xy", func(a arguments) outcome {
			x, is, e := Meet(a.x, a.y)
			return outcome{x: x, is: is, err: e}
		}},
		{"Hull", "xy", func(a arguments) outcome {
			x, e := Hull(a.x, a.y)
			return outcome{x: x, err: e}
		}},
		{"In", "xv", func(a arguments) outcome {
			is, e := In(a.x, a.v)
			return outcome{is: is, err: e}
		}},
		{"Halves", "x", func(a arguments) outcome {
			x, y, e := Halves(a.x)
			return outcome{x: x, y: y, err: e}
		}},
		{"Horner", "pxg", scheme(Horner)},
		{"Image", "pxg", scheme(Image)},
		{"Newton", "pxg", func(a arguments) outcome {
			x, n, e := Newton(a.p, a.x, a.g)
			return outcome{x: x, n: n, err: e}
		}},
	}
}

// hold reports whether an outcome is one that every call may have: with an error nothing besides it, else valid spans or none.
func (o outcome) hold() bool {
	if o.err != api.OK {
		return o == outcome{err: o.err}
	}
	valid := func(x api.Span) bool { return x == api.Span{} || Validate(x) == api.OK }
	return valid(o.x) && valid(o.y)
}

func badNumbers() []api.Rat {
	return []api.Rat{{}, q(2, 4), q(1, 0), q(1, -2), q(0, 2), q(api.MaxNum+1, 1), q(1, api.MaxNum+1), q(math.MinInt, math.MinInt)}
}

// fault is a change that makes an argument a bad one, with its error.
type fault struct {
	spoil func(a *arguments)
	err   api.Errno
}

// faults are those of each argument.
func faults() map[rune][]fault {
	f := map[rune][]fault{
		'p': {
			{func(a *arguments) { a.p = make([]api.Rat, api.MaxDeg+2) }, api.ErrLarge},
			{func(a *arguments) { a.p = whole(1, 0) }, api.ErrArg},
		},
		'x': {{func(a *arguments) { a.x = from(2, 1) }, api.ErrArg}},
		'y': {{func(a *arguments) { a.y = from(2, 1) }, api.ErrArg}},
	}
	for _, n := range badNumbers() {
		f['p'] = append(f['p'], fault{func(a *arguments) { a.p = []api.Rat{n, q(1, 1)} }, api.ErrArg})
		f['x'] = append(f['x'], fault{func(a *arguments) { a.x.Lo = n }, api.ErrArg}, fault{func(a *arguments) { a.x.Hi = n }, api.ErrArg})
		f['y'] = append(f['y'], fault{func(a *arguments) { a.y.Lo = n }, api.ErrArg}, fault{func(a *arguments) { a.y.Hi = n }, api.ErrArg})
		f['v'] = append(f['v'], fault{func(a *arguments) { a.v = n }, api.ErrArg})
	}
	for _, n := range []int{-1, 13, math.MinInt, math.MaxInt} {
		f['n'] = append(f['n'], fault{func(a *arguments) { a.n = n }, api.ErrArg})
	}
	for _, g := range []int{0, -1, api.MaxGrid + 1, math.MinInt, math.MaxInt} {
		f['g'] = append(f['g'], fault{func(a *arguments) { a.g = g }, api.ErrArg})
	}
	return f
}

// TestErrors hands bad arguments to every function, alone and ahead of bad ones behind them.
func TestErrors(t *testing.T) {
	good := arguments{p: whole(-2, 0, 1), x: from(1, 2), y: from(1, 3), v: q(1, 2), n: 2, g: 10}
	all := faults()
	for _, c := range calls() {
		if o := c.of(good); o.err != api.OK || !o.hold() {
			t.Errorf("%s of good arguments: %v", c.name, o)
		}
		for i, first := range c.order {
			for _, f := range all[first] {
				bad := good
				f.spoil(&bad)
				if o := c.of(bad); o.err != f.err || !o.hold() {
					t.Errorf("%s with a bad %c %v: %v, not %v", c.name, first, bad, o, f.err)
				}
				for _, second := range c.order[i+1:] {
					for _, s := range all[second] {
						worse := bad
						s.spoil(&worse)
						if o := c.of(worse); o.err != f.err || !o.hold() {
							t.Errorf("%s with a bad %c and %c %v: %v, not %v", c.name, first, second, worse, o, f.err)
						}
					}
				}
			}
		}
	}
}

// samples are polynomials with coefficients at the ends of what is allowed, and invalid ones.
func samples() [][]api.Rat {
	l := [][]api.Rat{nil, whole(1), whole(0, 1), whole(-2, 0, 1), whole(0, 0, 0, 0, 0, 0, 0, 0, 0, 0, 0, 0, 1), whole(0), {{}}, make([]api.Rat, 100000)}
	ends := []api.Rat{q(api.MaxNum, 1), q(-api.MaxNum, 1), q(1, api.MaxNum), q(api.MaxNum-1, api.MaxNum), q(999999999989, 999999999961), q(-1, 1)}
	for i, x := range ends {
		next := ends[(i+2)%len(ends)]
		l = append(l, []api.Rat{x}, []api.Rat{next, x}, []api.Rat{x, next, q(1, 2), x}, append(slices.Repeat([]api.Rat{x, next}, api.MaxDeg/2), x))
	}
	// Coefficients with denominators of their own.
	var long []api.Rat
	for d := 999999999989; len(long) <= api.MaxDeg; d-- {
		if x := q(d-1-7919*len(long), d); rat.Validate(x) == api.OK {
			long = append(long, x)
		}
	}
	return append(l, long)
}

// TestAllArguments calls every function with all samples: none panics, and what is returned is valid.
func TestAllArguments(t *testing.T) {
	most := api.MaxNum
	spans := []api.Span{
		{}, from(0, 0), from(-1, 1), from(1, 2), from(-most, most), from(most-1, most), from(-most, -most), parts(-1, 1, most), parts(1, 2, most),
		{Lo: q(999999999961, 999999999989), Hi: q(999999999989, 999999999961)}, from(1, 0), from(most+1, most+2), {Lo: q(math.MinInt, 1), Hi: q(math.MaxInt, 1)},
	}
	ints := []int{1, 12, 0, 2, api.MaxGrid, -1, 13, 3, math.MinInt, math.MaxInt, 11, 999983, 1}
	l := samples()
	for _, c := range calls() {
		for i, p := range l {
			for j, x := range spans {
				k := i + j
				a := arguments{p: p, x: x, y: spans[(k*5+2)%len(spans)], v: spans[k%len(spans)].Lo, n: ints[k%len(ints)], g: ints[(k*3+i)%len(ints)]}
				kept := slices.Clone(p)
				got, again := c.of(a), c.of(a)
				if !got.hold() || !reflect.DeepEqual(got, again) {
					t.Errorf("%s of %.200v: %v, then %v", c.name, a, got, again)
				}
				if e := poly.Validate(p); c.order[0] == 'p' && e != api.OK && got.err != e {
					t.Errorf("%s of %.200v: %v, not %v", c.name, a, got, e)
				}
				if !slices.Equal(p, kept) {
					t.Fatalf("%s of sample %d changes an argument", c.name, i)
				}
			}
		}
	}
}
