package rat

import (
	"slices"

	"isocline/api"
	"isocline/exact"
)

// Sum returns the sum of the list, exactly.
func Sum(l []api.Rat) (api.Rat, api.Errno) {
	if e := listErrors(l); e != api.OK {
		return api.Rat{}, e
	}
	return total(l, exact.Of).Rat()
}

// Product returns the product of the list, exactly.
func Product(l []api.Rat) (api.Rat, api.Errno) {
	if e := listErrors(l); e != api.OK {
		return api.Rat{}, e
	}
	p := exact.Whole(1)
	for _, x := range l {
		p = p.Mul(exact.Of(x))
	}
	return p.Rat()
}

// Dot returns the sum of the products a[i] * b[i], exactly.
func Dot(a, b []api.Rat) (api.Rat, api.Errno) {
	if e := listErrors(a, b); e != api.OK {
		return api.Rat{}, e
	}
	if len(a) != len(b) {
		return api.Rat{}, api.ErrFit
	}
	pairs := make([]pair, len(a))
	for i := range a {
		pairs[i] = pair{a[i], b[i]}
	}
	return total(pairs, pair.product).Rat()
}

type pair struct {
	a, b api.Rat
}

func (p pair) product() exact.Ratio {
	return exact.Of(p.a).Mul(exact.Of(p.b))
}

// total returns the sum of what the items are worth.
func total[T any](items []T, worth func(T) exact.Ratio) exact.Ratio {
	sum := exact.Whole(0)
	for _, x := range items {
		sum = sum.Add(worth(x))
	}
	return sum
}

// listErrors returns the first error of lists of numbers: all their lengths are asked before the first number.
func listErrors(lists ...[]api.Rat) api.Errno {
	first := api.OK
	long := func(l []api.Rat) bool { return len(l) > api.MaxRow }
	bad := func(x api.Rat) bool {
		first = Validate(x)
		return first != api.OK
	}
	if slices.ContainsFunc(lists, long) {
		return api.ErrLarge
	}
	for _, l := range lists {
		if slices.ContainsFunc(l, bad) {
			return first
		}
	}
	return api.OK
}
