package poly

import (
	"math"
	"math/rand"
	"reflect"
	"slices"
	"testing"

	"isocline/api"
)

// TestCommonErrors hands bad arguments to every function: those of the first one come ahead of those of the second.
func TestCommonErrors(t *testing.T) {
	good, x := whole(1, 1), q(1, 2)
	long := make([]api.Rat, api.MaxDeg+2) // too long ahead of coefficients that are no numbers
	bad := []struct {
		p   []api.Rat
		err api.Errno
	}{
		{long, api.ErrLarge},
		{power(api.MaxDeg + 1), api.ErrLarge},
		{make([]api.Rat, 100000), api.ErrLarge},
		{whole(1, 0), api.ErrArg},
		{whole(0), api.ErrArg},
		{[]api.Rat{q(2, 4), q(1, 1)}, api.ErrArg},
		{[]api.Rat{q(1, 1), q(1, 0)}, api.ErrArg},
		{[]api.Rat{q(1, 1), {}, q(1, 1)}, api.ErrArg},
		{[]api.Rat{q(math.MinInt, math.MinInt)}, api.ErrArg},
		{[]api.Rat{q(api.MaxNum+1, 1)}, api.ErrArg},
	}
	for _, c := range calls() {
		for _, b := range bad {
			if o := c.of(b.p, good, x); o.err != b.err || !o.hold() {
				t.Errorf("%s of %.40v: %v", c.name, b.p, o)
			}
			if c.more == 0 {
				continue
			}
			if o := c.of(good, b.p, x); o.err != b.err || !o.hold() {
				t.Errorf("%s of good and %.40v: %v", c.name, b.p, o)
			}
			if o := c.of(whole(1, 0), b.p, x); o.err != api.ErrArg || !o.hold() {
				t.Errorf("%s of an error in p and %.40v: %v", c.name, b.p, o)
			}
			if o := c.of(long, b.p, x); o.err != api.ErrLarge || !o.hold() {
				t.Errorf("%s of a long p and %.40v: %v", c.name, b.p, o)
			}
		}
		if c.name == "Eval" {
			if o := c.of(good, nil, q(2, 4)); o.err != api.ErrArg || !o.hold() {
				t.Errorf("Eval at a bad number: %v", o)
			}
			if o := c.of(long, nil, q(2, 4)); o.err != api.ErrLarge || !o.hold() {
				t.Errorf("Eval of a long polynomial at a bad number: %v", o)
			}
		}
	}
}

// TestValidate also stands for the arguments of all others.
func TestValidate(t *testing.T) {
	for _, p := range [][]api.Rat{nil, {}, whole(1), whole(0, 1), whole(0, 0, -3), {q(api.MaxNum, 1)}, {q(-1, api.MaxNum)}, power(api.MaxDeg)} {
		if e := Validate(p); e != api.OK {
			t.Errorf("%v: %v", p, e)
		}
	}
}

// samples are polynomials with coefficients at the ends of what is allowed, and invalid ones.
func samples() [][]api.Rat {
	ends := []api.Rat{q(api.MaxNum, 1), q(-api.MaxNum, 1), q(1, api.MaxNum), q(-1, api.MaxNum), q(api.MaxNum-1, api.MaxNum), q(999999999989, 999999999961), q(0, 1), q(1, 1), q(-1, 1)}
	l := [][]api.Rat{nil, whole(1), whole(-2, 0, 4), power(5), power(api.MaxDeg), whole(6, 5, 4, 3, 2, 1), whole(0), {{}}, {q(1, 1), {}}, {q(math.MinInt, math.MaxInt)}, make([]api.Rat, 20)}
	for i, x := range ends {
		l = append(l, []api.Rat{x}, []api.Rat{ends[0], x}, append(slices.Repeat([]api.Rat{x}, api.MaxDeg), ends[(i+3)%len(ends)]))
		l = append(l, append(slices.Repeat([]api.Rat{ends[3], x}, api.MaxDeg/2), ends[5]))
	}
	return l
}

// TestAllArguments calls every function with all pairs of the samples.
func TestAllArguments(t *testing.T) {
	numbers := []api.Rat{{}, q(0, 1), q(-3, 2), q(api.MaxNum, 1), q(api.MaxNum-1, api.MaxNum), q(2, 4), q(math.MinInt, -1)}
	for _, c := range calls() {
		for i, p := range samples() {
			for j, o := range samples() {
				if c.more == 0 && j >= len(numbers) {
					break
				}
				keptP, keptO := slices.Clone(p), slices.Clone(o)
				got := c.of(p, o, numbers[j%len(numbers)])
				if !got.hold() {
					t.Errorf("%s of %v, %v: %v", c.name, p, o, got)
				}
				if !slices.Equal(p, keptP) || !slices.Equal(o, keptO) {
					t.Fatalf("%s of samples %d, %d changes an argument", c.name, i, j)
				}
			}
		}
	}
}

// TestInterpolateAllArguments calls Interpolate with all pairs of the samples as lists of numbers.
func TestInterpolateAllArguments(t *testing.T) {
	for _, xs := range samples() {
		for _, ys := range samples() {
			p, e := Interpolate(xs, ys)
			if !(outcome{polys: [][]api.Rat{p}, err: e}).hold() {
				t.Errorf("Interpolate of %v, %v: %v %v", xs, ys, p, e)
			}
		}
	}
}

// TestNewMemory writes into all that a call has returned: neither the arguments nor another part of it change with that.
func TestNewMemory(t *testing.T) {
	spoil := func(p []api.Rat) {
		for i := range p {
			p[i] = q(77, 1)
		}
	}
	r := rand.New(rand.NewSource(11))
	for range 300 {
		p, o := related(r)
		for _, c := range calls() {
			keptP, keptO := slices.Clone(p), slices.Clone(o)
			got, same := c.of(p, o, q(1, 2)), c.of(p, o, q(1, 2))
			if !reflect.DeepEqual(got, same) {
				t.Fatalf("%s of %v, %v: %v, then %v", c.name, p, o, got, same)
			}
			for i := range got.polys {
				spoil(got.polys[i])
				for j := i + 1; j < len(got.polys); j++ {
					if !slices.Equal(got.polys[j], same.polys[j]) {
						t.Fatalf("%s: two results share memory", c.name)
					}
				}
			}
			for i := range got.powers {
				spoil(got.powers[i].P)
				for j := i + 1; j < len(got.powers); j++ {
					if !slices.Equal(got.powers[j].P, same.powers[j].P) {
						t.Fatalf("%s: two factors share memory", c.name)
					}
				}
			}
			if !slices.Equal(p, keptP) || !slices.Equal(o, keptO) {
				t.Fatalf("%s: a result shares memory with an argument", c.name)
			}
		}
	}
}
