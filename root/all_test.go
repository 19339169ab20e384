package root

import (
	"math"
	"reflect"
	"slices"
	"testing"

	"isocline/api"
	"isocline/poly"
	"isocline/rat"
)

// arguments are those of all functions, in one form.
type arguments struct {
	p    []api.Rat
	r, s api.Root
	a, b api.Rat
	g    int
}

func (a arguments) clone() arguments {
	a.p, a.r.P, a.s.P = slices.Clone(a.p), slices.Clone(a.r.P), slices.Clone(a.s.P)
	return a
}

// outcome is all that a call returns.
type outcome struct {
	ints  []int
	is    bool
	x     api.Rat
	roots []api.Root
	err   api.Errno
}

// call is a function with a text that tells the order of its arguments by their names in arguments.
type call struct {
	name, order string
	of          func(a arguments) outcome
}

func calls() []call {
	return []call{
		{"Validate", "r", func(a arguments) outcome { return outcome{err: Validate(a.r)} }},
		{"Count", "pab", func(a arguments) outcome {
			n, e := Count(a.p, a.a, a.b)
			return outcome{ints: []int{n}, err: e}
		}},
		{"Roots", "p", func(a arguments) outcome {
			l, n, e := Roots(a.p)
			return outcome{ints: n, roots: l, err: e}
		}},
		{"Cmp", "rs", func(a arguments) outcome {
			n, e := Cmp(a.r, a.s)
			return outcome{ints: []int{n}, err: e}
		}},
		{"CmpRat", "ra", func(a arguments) outcome {
			n, e := CmpRat(a.r, a.a)
			return outcome{ints: []int{n}, err: e}
		}},
		{"Sign", "pr", func(a arguments) outcome {
			n, e := Sign(a.p, a.r)
			return outcome{ints: []int{n}, err: e}
		}},
		{"Floor", "rg", func(a arguments) outcome {
			n, is, e := Floor(a.r, a.g)
			return outcome{ints: []int{n}, is: is, err: e}
		}},
		{"Rational", "r", func(a arguments) outcome {
			x, is, e := Rational(a.r)
			return outcome{x: x, is: is, err: e}
		}},
		{"Of", "a", func(a arguments) outcome {
			r, e := Of(a.a)
			return outcome{roots: []api.Root{r}, err: e}
		}},
		{"Next", "pa", func(a arguments) outcome {
			r, is, e := Next(a.p, a.a)
			return outcome{roots: []api.Root{r}, is: is, err: e}
		}},
		{"Least", "pabg", func(a arguments) outcome {
			k, l, e := Least(a.p, a.a, a.b, a.g)
			return outcome{ints: []int{k, l}, err: e}
		}},
		{"Positive", "p", func(a arguments) outcome {
			above, zero, below, e := Positive(a.p)
			return outcome{ints: []int{above, zero, below}, err: e}
		}},
		{"Variations", "p", func(a arguments) outcome {
			n, e := Variations(a.p)
			return outcome{ints: []int{n}, err: e}
		}},
	}
}

// isZero reports whether there is nothing besides an error.
func (o outcome) isZero() bool {
	some := func(n int) bool { return n != 0 }
	there := func(r api.Root) bool { return len(r.P) > 0 || r.K != 0 }
	return !slices.ContainsFunc(o.ints, some) && !o.is && o.x == api.Rat{} && !slices.ContainsFunc(o.roots, there)
}

// hold reports whether an outcome is one that every call may have: with an error nothing besides it, else valid parts.
func (o outcome) hold() bool {
	if o.err != api.OK {
		return o.isZero()
	}
	if o.x != (api.Rat{}) && rat.Validate(o.x) != api.OK {
		return false
	}
	return !slices.ContainsFunc(o.roots, func(r api.Root) bool { return len(r.P) > 0 && Validate(r) != api.OK })
}

// samples are polynomials with coefficients at the ends of what is allowed, and invalid ones.
func samples() [][]api.Rat {
	most := q(api.MaxNum, 1)
	l := [][]api.Rat{
		nil, whole(1), whole(-2, 0, 4), sparse(5, nil), sparse(12, nil), whole(6, 5, 4, 3, 2, 1), near(700000),
		whole(0), whole(1, 0), {{}}, {q(1, 1), {}}, {q(2, 4), q(1, 1)}, {q(math.MinInt, math.MaxInt), q(1, 1)}, {q(1, 1), q(1, 0)},
		make([]api.Rat, 20), sparse(13, nil), make([]api.Rat, 100000),
	}
	ends := []api.Rat{most, q(-api.MaxNum, 1), q(1, api.MaxNum), q(-1, api.MaxNum), q(api.MaxNum-1, api.MaxNum), q(999999999989, 999999999961), q(-1, 1)}
	for i, x := range ends {
		next := ends[(i+3)%len(ends)]
		l = append(l, []api.Rat{x}, []api.Rat{most, x}, []api.Rat{x, next, most, x}, append(slices.Repeat([]api.Rat{x}, api.MaxDeg), next))
		l = append(l, append(slices.Repeat([]api.Rat{ends[3], x}, api.MaxDeg/2), ends[5]))
	}
	return l
}

// TestErrors hands bad arguments to every function, alone and ahead of bad ones behind them.
func TestErrors(t *testing.T) {
	good := arguments{p: whole(-2, 0, 1), r: rootOf(whole(-2, 0, 1), 1), s: rootOf(whole(-3, 0, 1), 0), a: q(0, 1), b: q(1, 1), g: 10}
	type fault struct {
		spoil func(a *arguments)
		err   api.Errno
	}
	polys := func(set func(a *arguments, p []api.Rat)) []fault {
		var l []fault
		for _, p := range samples() {
			if e := poly.Validate(p); e != api.OK {
				l = append(l, fault{func(a *arguments) { set(a, p) }, e})
			}
		}
		return l
	}
	roots := func(set func(a *arguments, r api.Root)) []fault {
		l := polys(func(a *arguments, p []api.Rat) { set(a, rootOf(p, 0)) })
		for _, r := range []api.Root{{}, rootOf(whole(5), 0), rootOf(whole(2, 2), 0), rootOf(whole(0, 0, 1), 0)} {
			l = append(l, fault{func(a *arguments) { set(a, r) }, api.ErrArg})
		}
		for _, r := range []api.Root{rootOf(whole(-2, 0, 1), 2), rootOf(whole(-2, 0, 1), -1), rootOf(whole(2, 0, 1), 0)} {
			l = append(l, fault{func(a *arguments) { set(a, r) }, api.ErrNone})
		}
		return l
	}
	numbers := func(set func(a *arguments, x api.Rat)) []fault {
		var l []fault
		for _, x := range []api.Rat{{}, q(2, 4), q(1, 0), q(1, -2), q(api.MaxNum+1, 1), q(math.MinInt, math.MinInt)} {
			l = append(l, fault{func(a *arguments) { set(a, x) }, api.ErrArg})
		}
		return l
	}
	var grids []fault
	for _, g := range []int{0, -1, api.MaxGrid + 1, math.MaxInt, math.MinInt} {
		grids = append(grids, fault{func(a *arguments) { a.g = g }, api.ErrArg})
	}
	faults := map[rune][]fault{
		'p': polys(func(a *arguments, p []api.Rat) { a.p = p }),
		'r': roots(func(a *arguments, r api.Root) { a.r = r }),
		's': roots(func(a *arguments, r api.Root) { a.s = r }),
		'a': numbers(func(a *arguments, x api.Rat) { a.a = x }),
		'b': numbers(func(a *arguments, x api.Rat) { a.b = x }),
		'g': grids,
	}
	for _, c := range calls() {
		if o := c.of(good); o.err != api.OK || !o.hold() {
			t.Errorf("%s of good arguments: %v", c.name, o)
		}
		for i, first := range c.order {
			for _, f := range faults[first] {
				bad := good.clone()
				f.spoil(&bad)
				if o := c.of(bad); o.err != f.err || !o.hold() {
					t.Errorf("%s with a bad %c %.60v: %v, not %v", c.name, first, bad, o, f.err)
				}
				for _, second := range c.order[i+1:] {
					for _, g := range faults[second] {
						worse := bad.clone()
						g.spoil(&worse)
						if o := c.of(worse); o.err != f.err || !o.hold() {
							t.Errorf("%s with a bad %c and %c %.60v: %v, not %v", c.name, first, second, worse, o, f.err)
						}
					}
				}
			}
		}
	}
}

// TestZeroLast asks for ErrNone of a zero polynomial behind all other errors.
func TestZeroLast(t *testing.T) {
	bad := q(2, 4)
	if _, e := Count(nil, bad, q(0, 1)); e != api.ErrArg {
		t.Errorf("Count of zero from a bad number: %v", e)
	}
	if _, e := Count(nil, q(0, 1), bad); e != api.ErrArg {
		t.Errorf("Count of zero to a bad number: %v", e)
	}
	if _, _, e := Next(nil, bad); e != api.ErrArg {
		t.Errorf("Next of zero behind a bad number: %v", e)
	}
}

// TestAllArguments calls every function with all samples, as polynomials and as those of roots.
func TestAllArguments(t *testing.T) {
	numbers := []api.Rat{{}, q(0, 1), q(-3, 2), q(api.MaxNum, 1), q(-api.MaxNum, 1), q(api.MaxNum-1, api.MaxNum), q(2, 4), q(math.MinInt, -1)}
	grids := []int{1, 10, api.MaxGrid, 0, math.MinInt}
	l := samples()
	for _, c := range calls() {
		for i, p := range l {
			for j := range 20 {
				a := arguments{p: p, r: rootOf(l[(i+j)%len(l)], j%3-1), s: rootOf(p, j%4-1), a: numbers[(i+j)%8], b: numbers[(3*i+5*j)%8], g: grids[(i+j)%5]}
				kept := a.clone()
				got, again := c.of(a), c.of(a)
				if !got.hold() || !reflect.DeepEqual(got, again) {
					t.Errorf("%s of %.200v: %v, then %v", c.name, a, got, again)
				}
				if !slices.Equal(a.p, kept.p) || !slices.Equal(a.r.P, kept.r.P) || !slices.Equal(a.s.P, kept.s.P) {
					t.Fatalf("%s of samples %d, %d changes an argument", c.name, i, j)
				}
			}
		}
	}
}

// TestNewMemory writes into all that a call has returned: neither the arguments nor another part of it change with that.
func TestNewMemory(t *testing.T) {
	p := whole(0, -2, 0, 1)
	kept := slices.Clone(p)
	l, times, _ := Roots(p)
	next, _, _ := Next(p, q(0, 1))
	l[0].P[1], times[0], next.P[1] = q(77, 1), 77, q(77, 1)
	if !slices.Equal(p, kept) || !slices.Equal(l[1].P, kept) || !slices.Equal(l[2].P, kept) || times[1] != 1 {
		t.Errorf("results share memory: %v, %v, %v", p, l, times)
	}
	if o, _, _ := Roots(p); !slices.Equal(o[0].P, kept) {
		t.Errorf("a later result shares memory: %v", o)
	}
}
