package unit

import (
	"math"
	"slices"
	"strings"
	"testing"

	"isocline/api"
	"isocline/rat"
)

// arguments are those of all functions, in one form.
type arguments struct {
	u, v api.Unit
	n    int
	x    api.Rat
	by   []api.Rat
	s    string
}

// outcome is all that a call returns.
type outcome struct {
	u   api.Unit
	x   api.Rat
	is  bool
	s   string
	err api.Errno
}

// call is a function with a text that tells the order of its arguments by their names in arguments (b for by).
type call struct {
	name, order string
	of          func(a arguments) outcome
}

func calls() []call {
	unit := func(u api.Unit, e api.Errno) outcome { return outcome{u: u, err: e} }
	number := func(x api.Rat, e api.Errno) outcome { return outcome{x: x, err: e} }
	return []call{
		{"Validate", "u", func(a arguments) outcome { return outcome{err: Validate(a.u)} }},
		{"Name", "s", func(a arguments) outcome { return unit(Name(a.s)) }},
		{"Parse", "s", func(a arguments) outcome { return unit(Parse(a.s)) }},
		{"Print", "u", func(a arguments) outcome {
			s, e := Print(a.u)
			return outcome{s: s, err: e}
		}},
		{"Mul", "uv", func(a arguments) outcome { return unit(Mul(a.u, a.v)) }},
		{"Div", "uv", func(a arguments) outcome { return unit(Div(a.u, a.v)) }},
		{"Power", "un", func(a arguments) outcome { return unit(Power(a.u, a.n)) }},
		{"Like", "uv", func(a arguments) outcome {
			is, e := Like(a.u, a.v)
			return outcome{is: is, err: e}
		}},
		{"Convert", "xuv", func(a arguments) outcome { return number(Convert(a.x, a.u, a.v)) }},
		{"Scale", "ub", func(a arguments) outcome { return number(Scale(a.u, a.by)) }},
	}
}

// hold reports whether an outcome is one that every call may have: with an error nothing besides it, else what is valid, or nothing.
func (o outcome) hold() bool {
	if o.err != api.OK {
		return o == outcome{err: o.err}
	}
	return (o.u == api.Unit{} || Validate(o.u) == api.OK) && (o.x == api.Rat{} || rat.Validate(o.x) == api.OK)
}

func badNumbers() []api.Rat {
	return []api.Rat{{}, q(2, 4), q(1, 0), q(1, -2), q(0, 2), q(api.MaxNum+1, 1), q(1, api.MaxNum+1), q(math.MinInt, math.MinInt)}
}

func badUnits() []api.Unit {
	l := []api.Unit{of1(10), of1(0, 0, 0, 0, 0, 0, -10), of1(math.MinInt), of1(0, math.MaxInt), withF(q(0, 1)), withF(q(-1, 1))}
	for _, x := range badNumbers() {
		l = append(l, withF(x))
	}
	return l
}

// TestErrors hands bad arguments to every function, alone and ahead of what would be another error.
func TestErrors(t *testing.T) {
	good := arguments{u: of1(1), v: withF(q(2, 1), 1), n: 2, x: q(1, 2), by: slices.Repeat([]api.Rat{q(2, 1)}, 7), s: "m"}
	// What is an error of its own, but comes behind all bad arguments: unlike units, a list of another length, a product that is large.
	most := withF(q(api.MaxNum, 1), 9, 9)
	worse := arguments{u: most, v: withF(q(api.MaxNum, 1), 9, 8), n: 9, x: q(api.MaxNum, 1), by: good.by[1:], s: "m"}
	for _, c := range calls() {
		if o := c.of(good); o.err != api.OK || !o.hold() {
			t.Errorf("%s of good arguments: %v", c.name, o)
		}
		for _, start := range []arguments{good, worse} {
			for _, a := range spoiled(start, c.order) {
				if o := c.of(a); o.err != api.ErrArg || !o.hold() {
					t.Errorf("%s of %v: %v", c.name, a, o)
				}
			}
		}
	}
}

// spoiled are arguments of which one of those that order names is bad.
func spoiled(a arguments, order string) []arguments {
	var l []arguments
	for _, which := range order {
		for _, bad := range badUnits() {
			b := a
			switch which {
			case 'u':
				b.u = bad
			case 'v':
				b.v = bad
			case 'x', 'b':
				if rat.Validate(bad.F) == api.OK {
					continue
				}
				b.x = bad.F
				b.by = append(slices.Clone(a.by), bad.F)
			case 'n':
				b.n = 10
			default:
				continue
			}
			l = append(l, b)
		}
	}
	return l
}

// TestAllArguments calls every function with all samples, good and bad: none panics, what is returned is valid,
// the same call returns the same, and no argument is changed.
func TestAllArguments(t *testing.T) {
	ends := []api.Rat{q(api.MaxNum, 1), q(1, api.MaxNum), q(999999999961, 999999999989), q(-1, 1), q(1, 1), q(0, 1), q(3, 2)}
	units := badUnits()
	for _, x := range ends {
		units = append(units, withF(x), withF(x, 9, -9, 9, -9, 9, -9, 9), withF(x, -9, 9, -9, 9, -9, 9, -9), withF(x, 1, 0, -2))
	}
	numbers := append(badNumbers(), ends...)
	ints := []int{0, 1, -1, 2, 9, -9, 10, -10, math.MinInt, math.MaxInt}
	texts := []string{"", "m", "Gbar", "kN.m/s2", "1/2 m", "10000000000000 m", "\x00", "\xff\xfe", strings.Repeat("m.", 300), strings.Repeat("\n", 100000), "٣ m"}
	lists := [][]api.Rat{nil, {}, slices.Repeat(ends[:1], 7), slices.Repeat(ends[1:2], 7), ends, numbers, slices.Repeat(ends[2:3], 7), slices.Repeat(ends[4:5], 100000)}
	for i, u := range units {
		for j, v := range units {
			k := i + j
			a := arguments{u, v, ints[k%len(ints)], numbers[(i+2*j)%len(numbers)], lists[k%len(lists)], texts[k%len(texts)]}
			kept := slices.Clone(a.by)
			for _, c := range calls() {
				o := c.of(a)
				if !o.hold() || o != c.of(a) {
					t.Errorf("%s of %v, %v, %d, %v, list %d, %.40q: %v", c.name, u, v, a.n, a.x, k%len(lists), a.s, o)
				}
				if strings.HasPrefix(c.order, "u") && Validate(u) != api.OK && o.err != api.ErrArg {
					t.Errorf("%s of a bad unit %v: %v", c.name, u, o)
				}
			}
			if !slices.Equal(a.by, kept) {
				t.Fatal("an argument was changed")
			}
		}
	}
}
