package unit

import (
	"math/big"
	"math/rand"
	"testing"

	"isocline/api"
	"isocline/rat"
)

func q(n, d int) api.Rat { return api.Rat{N: n, D: d} }

// of1 is a unit with F 1.
func of1(e ...int) api.Unit { return withF(q(1, 1), e...) }

func withF(f api.Rat, e ...int) api.Unit {
	u := api.Unit{F: f}
	copy(u.E[:], e)
	return u
}

func toBig(x api.Rat) *big.Rat { return big.NewRat(int64(x.N), int64(x.D)) }

// fromBig is the number, ErrLarge if it is not representable.
func fromBig(x *big.Rat) (api.Rat, api.Errno) {
	most := big.NewInt(api.MaxNum)
	if new(big.Int).Abs(x.Num()).Cmp(most) > 0 || x.Denom().Cmp(most) > 0 {
		return api.Rat{}, api.ErrLarge
	}
	return q(int(x.Num().Int64()), int(x.Denom().Int64())), api.OK
}

// plain is a unit in the form of the library, without limits.
type plain struct {
	e [7]int
	f *big.Rat
}

func toPlain(u api.Unit) plain { return plain{u.E, toBig(u.F)} }

func (p plain) unit() (api.Unit, api.Errno) {
	for _, n := range p.e {
		if n < -9 || n > 9 {
			return api.Unit{}, api.ErrLarge
		}
	}
	f, e := fromBig(p.f)
	if e != api.OK {
		return api.Unit{}, e
	}
	return api.Unit{E: p.e, F: f}, api.OK
}

// times is p times r as often as n says, or divided by it.
func (p plain) times(r plain, n int) plain {
	f := new(big.Rat).Set(p.f)
	for i := range p.e {
		p.e[i] += n * r.e[i]
	}
	for range max(n, -n) {
		if n > 0 {
			f.Mul(f, r.f)
		} else {
			f.Quo(f, r.f)
		}
	}
	return plain{p.e, f}
}

// positive is a random number above 0, now and then at the ends of what is allowed.
func positive(r *rand.Rand) api.Rat {
	n, d := r.Intn(20)+1, r.Intn(6)+1
	switch r.Intn(8) {
	case 0:
		n, d = r.Intn(api.MaxNum)+1, 1
	case 1:
		n, d = r.Intn(api.MaxNum)+1, api.MaxNum-r.Intn(50)
	case 2:
		n, d = 1, r.Intn(api.MaxNum)+1
	case 3:
		n, d = 1, 1
	}
	x, _ := rat.Make(n, d)
	return x
}

// random is a random unit with exponents up to most.
func random(r *rand.Rand, most int) api.Unit {
	u := api.Unit{F: positive(r)}
	for i := range u.E {
		if r.Intn(2) == 0 {
			u.E[i] = r.Intn(2*most+1) - most
		}
	}
	return u
}

// answer is what a call returns, with what it has to return.
type answer[T comparable] struct {
	name string
	x    T
	e    api.Errno
	want T
	err  api.Errno
}

func check[T comparable](t *testing.T, l ...answer[T]) {
	t.Helper()
	for _, a := range l {
		if a.x != a.want || a.e != a.err {
			t.Errorf("%s: %v %v, not %v %v", a.name, a.x, a.e, a.want, a.err)
		}
	}
}
