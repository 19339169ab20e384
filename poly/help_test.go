package poly

import (
	"math/big"
	"math/rand"
	"slices"
	"testing"

	"isocline/api"
)

func q(n, d int) api.Rat { return api.Rat{N: n, D: d} }

// whole is a polynomial with whole coefficients, the constant term first.
func whole(l ...int) []api.Rat {
	p := make([]api.Rat, len(l))
	for i, n := range l {
		p[i] = q(n, 1)
	}
	return p
}

// power is t^n.
func power(n int) []api.Rat {
	return whole(append(make([]int, n), 1)...)
}

// plain is a polynomial in the form of the library, without noughts at the top.
type plain []*big.Rat

func toPlain(p []api.Rat) plain {
	l := make(plain, len(p))
	for i, c := range p {
		l[i] = big.NewRat(int64(c.N), int64(c.D))
	}
	return l
}

func (p plain) at(i int) *big.Rat {
	if i < len(p) {
		return p[i]
	}
	return new(big.Rat)
}

func (p plain) trim() plain {
	for len(p) > 0 && p[len(p)-1].Sign() == 0 {
		p = p[:len(p)-1]
	}
	return p
}

func (p plain) add(o plain, k *big.Rat) plain {
	l := make(plain, max(len(p), len(o)))
	for i := range l {
		l[i] = new(big.Rat).Mul(o.at(i), k)
		l[i].Add(l[i], p.at(i))
	}
	return l.trim()
}

func (p plain) mul(o plain) plain {
	l := make(plain, len(p)+len(o))
	for i := range l {
		l[i] = new(big.Rat)
	}
	for i, x := range p {
		for j, y := range o {
			l[i+j].Add(l[i+j], new(big.Rat).Mul(x, y))
		}
	}
	return l.trim()
}

func (p plain) scale(k *big.Rat) plain { return plain{}.add(p, k) }

func (p plain) div(o plain) (quotient, rest plain) {
	quotient = plain{}
	for len(p) >= len(o) {
		step := make(plain, len(p)-len(o)+1)
		for i := range step {
			step[i] = new(big.Rat)
		}
		step[len(step)-1].Quo(p[len(p)-1], o[len(o)-1])
		quotient = quotient.add(step, big.NewRat(1, 1))
		p = p.add(step.mul(o), big.NewRat(-1, 1))
	}
	return quotient, p
}

func (p plain) gcd(o plain) plain {
	for len(o) > 0 {
		_, rest := p.div(o)
		p, o = o, rest
	}
	return p.monic()
}

func (p plain) monic() plain {
	if len(p) == 0 {
		return p
	}
	return p.scale(new(big.Rat).Inv(p[len(p)-1]))
}

func (p plain) value(x *big.Rat) *big.Rat {
	v := new(big.Rat)
	for i := len(p) - 1; i >= 0; i-- {
		v.Mul(v, x)
		v.Add(v, p[i])
	}
	return v
}

// numberOf returns the number that the library has, or ErrLarge.
func numberOf(x *big.Rat) (api.Rat, api.Errno) {
	most := big.NewInt(api.MaxNum)
	if x.Num().CmpAbs(most) > 0 || x.Denom().Cmp(most) > 0 {
		return api.Rat{}, api.ErrLarge
	}
	return q(int(x.Num().Int64()), int(x.Denom().Int64())), api.OK
}

// numbers returns the polynomial as a result has it, or ErrLarge.
func (p plain) numbers() ([]api.Rat, api.Errno) {
	if len(p) > api.MaxDeg+1 {
		return nil, api.ErrLarge
	}
	l := make([]api.Rat, len(p))
	for i, c := range p {
		x, e := numberOf(c)
		if e != api.OK {
			return nil, e
		}
		l[i] = x
	}
	return l, api.OK
}

// random returns a polynomial of a degree of at most degree, with coefficients of few or of many digits, sometimes many of them 0.
func random(r *rand.Rand, degree int) []api.Rat {
	limit := []int64{1, 3, 20, 1000, 1000000, api.MaxNum}[r.Intn(6)]
	bottom := []int64{1, 1, 4, 60, limit}[r.Intn(5)]
	sparse := r.Intn(3) == 0
	l := make(plain, r.Intn(degree+2))
	for i := range l {
		l[i] = big.NewRat(r.Int63n(2*limit+1)-limit, r.Int63n(bottom)+1)
		if sparse && r.Intn(3) > 0 {
			l[i] = new(big.Rat)
		}
	}
	p, _ := l.trim().numbers()
	return p
}

// related returns two polynomials that often have a common divisor, or of which one is a multiple of the other,
// or of which one leaves a remainder of a much lesser degree when it is divided by the other.
func related(r *rand.Rand) ([]api.Rat, []api.Rat) {
	for {
		common := toPlain(random(r, 3))
		a, b := toPlain(random(r, 5)), toPlain(random(r, 5))
		switch r.Intn(6) {
		case 0:
			a = a.mul(b).add(toPlain(random(r, 1)), big.NewRat(1, 1))
		case 1:
			b = b.mul(a).add(toPlain(random(r, 1)), big.NewRat(1, 1))
		}
		p, e1 := a.mul(common).numbers()
		o, e2 := b.mul(common).numbers()
		if e1 == api.OK && e2 == api.OK {
			return p, o
		}
	}
}

// outcome is all that a call returns.
type outcome struct {
	polys   [][]api.Rat
	numbers []api.Rat
	powers  []api.Power
	text    string
	err     api.Errno
}

// call is a function with its arguments in one form; more is how many polynomials it takes besides p.
type call struct {
	name string
	more int
	of   func(p, o []api.Rat, x api.Rat) outcome
}

func oneOfOne(name string, f func(p []api.Rat) ([]api.Rat, api.Errno)) call {
	return call{name, 0, func(p, _ []api.Rat, _ api.Rat) outcome {
		r, e := f(p)
		return outcome{polys: [][]api.Rat{r}, err: e}
	}}
}

func oneOfTwo(name string, f func(p, o []api.Rat) ([]api.Rat, api.Errno)) call {
	return call{name, 1, func(p, o []api.Rat, _ api.Rat) outcome {
		r, e := f(p, o)
		return outcome{polys: [][]api.Rat{r}, err: e}
	}}
}

func twoOfTwo(name string, f func(p, o []api.Rat) ([]api.Rat, []api.Rat, api.Errno)) call {
	return call{name, 1, func(p, o []api.Rat, _ api.Rat) outcome {
		r, s, e := f(p, o)
		return outcome{polys: [][]api.Rat{r, s}, err: e}
	}}
}

// calls are all functions that take polynomials.
func calls() []call {
	return []call{
		oneOfTwo("Add", Add), oneOfTwo("Sub", Sub), oneOfTwo("Mul", Mul), oneOfTwo("Gcd", Gcd), oneOfTwo("Compose", Compose),
		oneOfOne("Derive", Derive), oneOfOne("Integral", Integral),
		twoOfTwo("Div", Div), twoOfTwo("Bezout", Bezout),
		{"Eval", 0, func(p, _ []api.Rat, x api.Rat) outcome {
			r, e := Eval(p, x)
			return outcome{numbers: []api.Rat{r}, err: e}
		}},
		{"Primitive", 0, func(p, _ []api.Rat, _ api.Rat) outcome {
			r, f, e := Primitive(p)
			return outcome{polys: [][]api.Rat{r}, numbers: []api.Rat{f}, err: e}
		}},
		{"Squares", 0, func(p, _ []api.Rat, _ api.Rat) outcome {
			l, f, e := Squares(p)
			return outcome{powers: l, numbers: []api.Rat{f}, err: e}
		}},
		{"Resultant", 1, func(p, o []api.Rat, _ api.Rat) outcome {
			r, e := Resultant(p, o)
			return outcome{numbers: []api.Rat{r}, err: e}
		}},
		{"Print", 0, func(p, _ []api.Rat, _ api.Rat) outcome {
			s, e := Print(p)
			return outcome{text: s, err: e}
		}},
		{"Validate", 0, func(p, _ []api.Rat, _ api.Rat) outcome { return outcome{err: Validate(p)} }},
	}
}

// hold reports whether an outcome is one that every call may have: with an error nothing besides it, else valid parts.
func (o outcome) hold() bool {
	if o.err != api.OK {
		zero := func(x api.Rat) bool { return x == api.Rat{} }
		return len(slices.Concat(o.polys...)) == 0 && len(o.powers) == 0 && o.text == "" && !slices.ContainsFunc(o.numbers, func(x api.Rat) bool { return !zero(x) })
	}
	for _, p := range o.polys {
		if Validate(p) != api.OK {
			return false
		}
	}
	for _, f := range o.powers {
		if Validate(f.P) != api.OK {
			return false
		}
	}
	return numberErrors(o.numbers) == api.OK
}

// samePoly compares what a call has returned.
func samePoly(t *testing.T, name string, got []api.Rat, e api.Errno, want []api.Rat, err api.Errno) {
	t.Helper()
	if !slices.Equal(got, want) || e != err {
		t.Errorf("%s: %v %v, not %v %v", name, got, e, want, err)
	}
}
