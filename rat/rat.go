// Package rat is layer 1: exact rational numbers.
package rat

import (
	"isocline/api"
	"isocline/exact"
)

// maxPower is the greatest absolute value of an exponent.
const maxPower = 60

// Validate returns ErrArg if x is not a number: not in lowest terms with a denominator above 0, or above the limit.
func Validate(x api.Rat) api.Errno {
	if x.D < 1 || x.D > api.MaxNum || x.N < -api.MaxNum || x.N > api.MaxNum {
		return api.ErrArg
	}
	if exact.Gcd(uint64(max(x.N, -x.N)), uint64(x.D)) != 1 {
		return api.ErrArg
	}
	return api.OK
}

// firstError returns the first error of the numbers.
func firstError(numbers ...api.Rat) api.Errno {
	for _, x := range numbers {
		if e := Validate(x); e != api.OK {
			return e
		}
	}
	return api.OK
}

// Make returns n divided by d.
func Make(n, d int) (api.Rat, api.Errno) {
	if d == 0 {
		return api.Rat{}, api.ErrArg
	}
	return exact.NewRatio(exact.NewInt(n), exact.NewInt(d)).Rat()
}

// Add returns x + y.
func Add(x, y api.Rat) (api.Rat, api.Errno) {
	return combine(x, y, exact.Ratio.Add)
}

// Sub returns x - y.
func Sub(x, y api.Rat) (api.Rat, api.Errno) {
	return combine(x, y, exact.Ratio.Sub)
}

// Mul returns x * y.
func Mul(x, y api.Rat) (api.Rat, api.Errno) {
	return combine(x, y, exact.Ratio.Mul)
}

func combine(x, y api.Rat, by func(x, y exact.Ratio) exact.Ratio) (api.Rat, api.Errno) {
	if e := firstError(x, y); e != api.OK {
		return api.Rat{}, e
	}
	return by(exact.Of(x), exact.Of(y)).Rat()
}

// Div returns x / y: ErrNone if y is 0.
func Div(x, y api.Rat) (api.Rat, api.Errno) {
	if e := firstError(x, y); e != api.OK {
		return api.Rat{}, e
	}
	if y.N == 0 {
		return api.Rat{}, api.ErrNone
	}
	return exact.Of(x).Quo(exact.Of(y)).Rat()
}

// Power returns the n-th power of x; with n = 0 it is 1, also of 0.
func Power(x api.Rat, n int) (api.Rat, api.Errno) {
	if e := Validate(x); e != api.OK {
		return api.Rat{}, e
	}
	if n < -maxPower || n > maxPower {
		return api.Rat{}, api.ErrArg
	}
	if x.N == 0 && n < 0 {
		return api.Rat{}, api.ErrNone
	}
	return exact.Of(x).Power(n).Rat()
}

// Cmp returns -1, 0 or 1 as x is less than, equal to or greater than y.
func Cmp(x, y api.Rat) (int, api.Errno) {
	if e := firstError(x, y); e != api.OK {
		return 0, e
	}
	return exact.Of(x).Cmp(exact.Of(y)), api.OK
}

// Floor returns the greatest integer that is at most x.
func Floor(x api.Rat) (int, api.Errno) {
	if e := Validate(x); e != api.OK {
		return 0, e
	}
	return floorDiv(x.N, x.D), api.OK
}

// floorDiv returns n / d rounded down, for d above 0.
func floorDiv(n, d int) int {
	q := n / d
	if n%d < 0 {
		q--
	}
	return q
}

// Round returns the multiple of 1/g nearest to x; of two the one whose multiple is even.
func Round(x api.Rat, g int) (api.Rat, api.Errno) {
	if e := Validate(x); e != api.OK {
		return api.Rat{}, e
	}
	if g < 1 || g > api.MaxGrid {
		return api.Rat{}, api.ErrArg
	}
	n := x.N * g // within MaxNum * MaxGrid, which an int has room for
	k := floorDiv(n, x.D)
	above := 2 * (n - k*x.D) // twice what n/D is above k, in parts of D
	if above > x.D || above == x.D && k%2 != 0 {
		k++
	}
	return Make(k, g)
}
