package rat

import (
	"isocline/api"
	"isocline/exact"
)

// Simplest returns the number from x to y with the least denominator, of these the one with the least absolute numerator.
func Simplest(x, y api.Rat) (api.Rat, api.Errno) {
	order, e := Cmp(x, y)
	if e != api.OK {
		return api.Rat{}, e
	}
	if order > 0 {
		return api.Rat{}, api.ErrArg
	}
	if x.N > 0 {
		return simplest(x, y), api.OK
	}
	if y.N < 0 {
		return negative(simplest(negative(y), negative(x))), api.OK
	}
	return api.Rat{N: 0, D: 1}, api.OK
}

func negative(x api.Rat) api.Rat {
	return api.Rat{N: -x.N, D: x.D}
}

// simplest is Simplest for x above 0 and at most y.
// Where no integer lies from x to y, both have one whole part: what is simplest for the rests turned over is so for them.
func simplest(x, y api.Rat) api.Rat {
	whole := x.N / x.D
	if x.D == 1 {
		return x
	}
	if y.N/y.D > whole {
		return api.Rat{N: whole + 1, D: 1}
	}
	r := simplest(api.Rat{N: y.D, D: y.N - whole*y.D}, api.Rat{N: x.D, D: x.N - whole*x.D})
	return api.Rat{N: whole*r.N + r.D, D: r.N}
}

// Near returns the number nearest to x with a denominator of at most most.
func Near(x api.Rat, most int) (api.Rat, api.Errno) {
	if e := Validate(x); e != api.OK {
		return api.Rat{}, e
	}
	if most < 1 || most > api.MaxNum {
		return api.Rat{}, api.ErrArg
	}
	if x.D <= most {
		return x, api.OK
	}
	low, high := neighbours(x, most)
	at := exact.Of(x)
	order := at.Sub(exact.Of(low)).Cmp(exact.Of(high).Sub(at))
	if order < 0 || order == 0 && low.D <= high.D {
		return low, api.OK
	}
	return high, api.OK
}

// neighbours returns, of the numbers with a denominator of at most most, the greatest one below x and the least one above it.
// The denominator of x is above most.
func neighbours(x api.Rat, most int) (low, high api.Rat) {
	before, last := api.Rat{N: 0, D: 1}, api.Rat{N: 1, D: 0} // the convergents of x, from the two ahead of the first
	n, d := x.N, x.D
	for {
		a := floorDiv(n, d)
		next := mediant(before, last, a)
		if next.D > most {
			break
		}
		before, last = last, next
		n, d = d, n-a*d
	}
	// The last convergent is on one side of x; as far toward x as most allows on the other side is a mediant.
	between := mediant(before, last, (most-before.D)/last.D)
	if exact.Of(between).Cmp(exact.Of(x)) > 0 {
		return last, between
	}
	return between, last
}

// mediant adds the numerator and the denominator of y, k times, to those of x.
func mediant(x, y api.Rat, k int) api.Rat {
	return api.Rat{N: x.N + k*y.N, D: x.D + k*y.D}
}

// Fraction returns the continued fraction of x.
func Fraction(x api.Rat) ([]int, api.Errno) {
	if e := Validate(x); e != api.OK {
		return nil, e
	}
	var l []int
	n, d := x.N, x.D
	for d > 0 {
		a := floorDiv(n, d)
		l = append(l, a)
		n, d = d, n-a*d
	}
	return l, api.OK
}

// Join returns the number whose continued fraction is l.
func Join(l []int) (api.Rat, api.Errno) {
	if len(l) > api.MaxRow {
		return api.Rat{}, api.ErrLarge
	}
	if !isFraction(l) {
		return api.Rat{}, api.ErrArg
	}
	last := len(l) - 1
	x := exact.Whole(l[last])
	for i := last - 1; i >= 0; i-- {
		x = exact.Whole(l[i]).Add(x.Inverse())
	}
	return x.Rat()
}

func isFraction(l []int) bool {
	if len(l) == 0 {
		return false
	}
	for _, a := range l[1:] {
		if a < 1 {
			return false
		}
	}
	return len(l) == 1 || l[len(l)-1] != 1
}
