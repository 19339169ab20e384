package mat

import (
	"math"
	"math/rand"
	"reflect"
	"slices"
	"strings"
	"testing"

	"isocline/api"
)

// TestCommonErrors hands bad arguments to every function: those of the first one come ahead of those of the second, and
// ahead of what the function says itself.
func TestCommonErrors(t *testing.T) {
	good := arguments{m: square(1, 2, 2, 1), n: square(3, 4, 5, 6), b: whole(1, 2), x: q(1, 2), k: 2}
	for _, bad := range []api.Mat{
		{R: -1}, {C: 13}, {R: 13, C: 13}, {R: 2, C: 2, V: whole(1)}, {R: 1, C: 2, V: []api.Rat{q(1, 1), q(1, 0)}},
		{R: 3, C: 2, V: []api.Rat{{}, q(1, 1), q(1, 1), q(1, 1), q(1, 1), q(1, 1)}},
	} {
		for _, c := range calls() {
			for _, field := range c.takes {
				a := good
				switch field {
				case 'm':
					a.m, a.n, a.b, a.x, a.k = bad, api.Mat{R: 1}, whole(1), q(2, 2), 61
				case 'n':
					a.n = bad
				case 'b':
					a.b = append(whole(1, 2, 3), q(2, 2))
				case 'x':
					a.x = q(2, 2)
				case 'k':
					a.m, a.k = oblong(1, 1, 2), 61
				}
				if o := c.of(a); o.err != api.ErrArg || !o.hold() {
					t.Errorf("%s with a bad %c: %v", c.name, field, o)
				}
			}
			if o := c.of(good); o.err != api.OK || !o.hold() {
				t.Errorf("%s of good arguments: %v", c.name, o)
			}
		}
	}
}

// samples are matrices with numbers at the ends of what is allowed, and invalid ones.
func samples() []api.Mat {
	r := rand.New(rand.NewSource(12))
	ends := []api.Rat{q(api.MaxNum, 1), q(-api.MaxNum, 1), q(1, api.MaxNum), q(-1, api.MaxNum), q(api.MaxNum-1, api.MaxNum), q(999999999989, 999999999961), q(0, 1), q(1, 1), q(-1, 1)}
	list := []api.Mat{{}, {R: 3}, {C: 3}, {R: 12}, {C: 12}, square(1, 2, 3, 4), oblong(1, 1, 2, 3), oblong(3, 1, 2, 3), ones(12, 1), scaled(12, q(1, 1)),
		{R: -1}, {R: 13}, {R: math.MaxInt, C: math.MaxInt}, {R: 2, C: 2, V: make([]api.Rat, 4)}, {R: 1, C: 1, V: []api.Rat{q(math.MinInt, math.MaxInt)}}}
	for i, x := range ends {
		full := api.Mat{R: 12, C: 12, V: slices.Repeat([]api.Rat{x}, 144)}
		mixed := api.Mat{R: 12, C: 12}
		for range 144 {
			mixed.V = append(mixed.V, ends[r.Intn(len(ends))])
		}
		list = append(list, full, mixed, scaled(12, x), api.Mat{R: 2, C: 2, V: []api.Rat{x, ends[(i+1)%9], ends[(i+2)%9], x}})
		list = append(list, api.Mat{R: 2, C: 3, V: mixed.V[:6]}, api.Mat{R: 3, C: 2, V: mixed.V[:6]}, api.Mat{R: 12, C: 5, V: mixed.V[:60]}, api.Mat{R: 5, C: 12, V: mixed.V[:60]})
	}
	return append(list, numerous(r, 12, 12), numerous(r, 12, 6))
}

// numerous returns a matrix in which all numbers are long and have denominators of their own.
func numerous(r *rand.Rand, rows, columns int) api.Mat {
	m := api.Mat{R: rows, C: columns}
	for len(m.V) < rows*columns {
		x := q(r.Intn(api.MaxNum), api.MaxNum-r.Intn(api.MaxNum/10))
		if Validate(api.Mat{R: 1, C: 1, V: []api.Rat{x}}) == api.OK {
			m.V = append(m.V, x)
		}
	}
	return m
}

// TestAllArguments calls every function with all samples.
func TestAllArguments(t *testing.T) {
	numbers := []api.Rat{{}, q(0, 1), q(-3, 2), q(api.MaxNum, 1), q(api.MaxNum-1, api.MaxNum), q(math.MinInt, -1)}
	powers := []int{60, 59, 2, 0, -1, 61, math.MinInt, math.MaxInt}
	for i, m := range samples() {
		for _, c := range calls() {
			for j, n := range samples() {
				if !strings.Contains(c.takes, "n") && j >= len(powers) {
					break
				}
				a := arguments{m: m, n: n, b: n.V, x: numbers[j%len(numbers)], k: powers[j%len(powers)]}
				if strings.Contains(c.takes, "b") && m.R >= 0 && m.R < 13 {
					a.b = slices.Repeat(numbers[1:5], 3)[:m.R]
				}
				keptM, keptB := slices.Clone(m.V), slices.Clone(a.b)
				if o := c.of(a); !o.hold() {
					t.Errorf("%s of samples %d, %d: %v", c.name, i, j, o)
				}
				if !slices.Equal(m.V, keptM) || !slices.Equal(a.b, keptB) {
					t.Fatalf("%s of samples %d, %d changes an argument", c.name, i, j)
				}
			}
		}
	}
}

// TestNewMemory writes into all that a call has returned: neither the arguments nor another part of it change with that.
func TestNewMemory(t *testing.T) {
	r := rand.New(rand.NewSource(13))
	for range 200 {
		n := r.Intn(4)
		a := arguments{m: random(r, n, n), n: random(r, n, n), b: random(r, n, 1).V, x: q(1, 2), k: r.Intn(4)}
		for _, c := range calls() {
			// With room behind it, so that an append to a part of it would show.
			whole := append(slices.Clone(a.m.V), q(5, 1), q(6, 1))
			with := a
			with.m.V = whole[:len(a.m.V)]
			kept, keptB := slices.Clone(whole), slices.Clone(a.b)
			got, same := c.of(with), c.of(with)
			if !reflect.DeepEqual(got, same) {
				t.Fatalf("%s of %v: %v, then %v", c.name, a, got, same)
			}
			parts, others := got.parts(), same.parts()
			for i, p := range parts {
				for k := range p {
					p[k] = q(77, 1)
				}
				for j := i + 1; j < len(parts); j++ {
					if !slices.Equal(parts[j], others[j]) {
						t.Fatalf("%s: two results share memory", c.name)
					}
				}
			}
			if !slices.Equal(whole, kept) || !slices.Equal(a.b, keptB) {
				t.Fatalf("%s: a result shares memory with an argument", c.name)
			}
		}
	}
}

// parts are the lists of an outcome.
func (o outcome) parts() [][]api.Rat {
	l := slices.Clone(o.lists)
	for _, m := range o.mats {
		l = append(l, m.V)
	}
	return l
}
