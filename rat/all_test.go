package rat

import (
	"math"
	"slices"
	"testing"

	"isocline/api"
)

// TestAllArguments calls every function with all pairs of numbers, good and bad, made of such ints: none panics,
// what is returned without an error is a number, and with an error it is the zero value.
func TestAllArguments(t *testing.T) {
	ints := []int{math.MinInt, math.MinInt + 1, -api.MaxNum - 1, -api.MaxNum, -api.MaxGrid, -61, -60, -2, -1, 0, 1, 2, 3, 60, 61, api.MaxGrid, api.MaxGrid + 1,
		999999999989, api.MaxNum - 1, api.MaxNum, api.MaxNum + 1, math.MaxInt - 1, math.MaxInt}
	var numbers []api.Rat
	hold := func(name string, x api.Rat, e api.Errno) {
		t.Helper()
		if e == api.OK && Validate(x) != api.OK || e != api.OK && x != (api.Rat{}) {
			t.Errorf("%s: %v %v", name, x, e)
		}
	}
	for _, n := range ints {
		for _, d := range ints {
			numbers = append(numbers, q(n, d))
			x, e := Make(n, d)
			hold("Make", x, e)
			x, e = Join([]int{n, d})
			hold("Join", x, e)
			x, e = Join([]int{n, d, d, n, d})
			hold("Join", x, e)
		}
	}
	for _, x := range numbers {
		holdOne(t, hold, x, ints)
	}
	// Pairs of all of them would be many; a bad one ends every call alike.
	good := slices.DeleteFunc(slices.Clone(numbers), func(x api.Rat) bool { return Validate(x) != api.OK })
	for _, x := range append(good, q(2, 4), q(1, math.MinInt), q(math.MinInt, 1)) {
		for _, y := range append(good, q(0, 0), q(math.MinInt, math.MinInt)) {
			holdTwo(t, hold, x, y)
		}
	}
}

func holdOne(t *testing.T, hold func(string, api.Rat, api.Errno), x api.Rat, ints []int) {
	bad := Validate(x)
	for _, n := range ints {
		p, e := Power(x, n)
		hold("Power", p, e)
		r, e := Round(x, n)
		hold("Round", r, e)
		m, e := Near(x, n)
		hold("Near", m, e)
	}
	if n, e := Floor(x); e != bad || e != api.OK && n != 0 {
		t.Errorf("Floor of %v: %d %v", x, n, e)
	}
	if l, e := Fraction(x); e != bad || e != api.OK && len(l) != 0 {
		t.Errorf("Fraction of %v: %v %v", x, l, e)
	}
	if s, e := Print(x); e != bad || e != api.OK && s != "" {
		t.Errorf("Print of %v: %q %v", x, s, e)
	}
}

func holdTwo(t *testing.T, hold func(string, api.Rat, api.Errno), x, y api.Rat) {
	for _, f := range []func(x, y api.Rat) (api.Rat, api.Errno){Add, Sub, Mul, Div, Simplest} {
		r, e := f(x, y)
		hold("of two", r, e)
	}
	if c, e := Cmp(x, y); e != api.OK && c != 0 {
		t.Errorf("Cmp of %v, %v: %d %v", x, y, c, e)
	}
	l := []api.Rat{x, y, x, x, y}
	s, e := Sum(l)
	hold("Sum", s, e)
	p, e := Product(l)
	hold("Product", p, e)
	d, e := Dot(l, l)
	hold("Dot", d, e)
}
