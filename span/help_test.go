package span

import (
	"math/big"
	"math/rand"
	"testing"

	"isocline/api"
	"isocline/rat"
)

func q(n, d int) api.Rat { return api.Rat{N: n, D: d} }

// whole is a list of whole numbers.
func whole(l ...int) []api.Rat {
	p := make([]api.Rat, len(l))
	for i, n := range l {
		p[i] = q(n, 1)
	}
	return p
}

// from is a span of whole numbers.
func from(lo, hi int) api.Span { return api.Span{Lo: q(lo, 1), Hi: q(hi, 1)} }

// parts is a span of multiples of 1/d.
func parts(lo, hi, d int) api.Span {
	a, _ := rat.Make(lo, d)
	b, _ := rat.Make(hi, d)
	return api.Span{Lo: a, Hi: b}
}

func toBig(x api.Rat) *big.Rat { return big.NewRat(int64(x.N), int64(x.D)) }

// fromBig is the number, ErrLarge if it is not representable.
func fromBig(x *big.Rat) (api.Rat, api.Errno) {
	most := big.NewInt(api.MaxNum)
	if new(big.Int).Abs(x.Num()).Cmp(most) > 0 || x.Denom().Cmp(most) > 0 {
		return api.Rat{}, api.ErrLarge
	}
	return q(int(x.Num().Int64()), int(x.Denom().Int64())), api.OK
}

// plain is a span in the form of the library.
type plain struct {
	lo, hi *big.Rat
}

func toPlain(x api.Span) plain { return plain{toBig(x.Lo), toBig(x.Hi)} }

// hullOf is the least span that holds all of these.
func hullOf(l ...*big.Rat) plain {
	x := plain{l[0], l[0]}
	for _, v := range l {
		if v.Cmp(x.lo) < 0 {
			x.lo = v
		}
		if v.Cmp(x.hi) > 0 {
			x.hi = v
		}
	}
	return x
}

// floorOf is the greatest multiple of 1/g that is at most x.
func floorOf(x *big.Rat, g int) *big.Rat {
	n := new(big.Int).Mul(x.Num(), big.NewInt(int64(g)))
	n.Div(n, x.Denom()) // rounds down, as the denominator is above 0
	return new(big.Rat).SetFrac(n, big.NewInt(int64(g)))
}

func (x plain) outward(g int) plain {
	up := new(big.Rat).Neg(floorOf(new(big.Rat).Neg(x.hi), g))
	return plain{floorOf(x.lo, g), up}
}

func (x plain) span() (api.Span, api.Errno) {
	lo, e := fromBig(x.lo)
	hi, f := fromBig(x.hi)
	if e != api.OK || f != api.OK {
		return api.Span{}, api.ErrLarge
	}
	return api.Span{Lo: lo, Hi: hi}, api.OK
}

func (x plain) holds(v *big.Rat) bool { return x.lo.Cmp(v) <= 0 && v.Cmp(x.hi) <= 0 }

// each is the hull of what comes of all pairs of ends.
func each(x, y plain, by func(z, a, b *big.Rat) *big.Rat) plain {
	var l []*big.Rat
	for _, a := range []*big.Rat{x.lo, x.hi} {
		for _, b := range []*big.Rat{y.lo, y.hi} {
			l = append(l, by(new(big.Rat), a, b))
		}
	}
	return hullOf(l...)
}

// number is a random number, now and then at the ends of what is allowed.
func number(r *rand.Rand) api.Rat {
	n, d := r.Intn(41)-20, r.Intn(6)+1
	switch r.Intn(6) {
	case 0:
		n, d = r.Intn(2*api.MaxNum+1)-api.MaxNum, 1
	case 1:
		n, d = r.Intn(2*api.MaxNum+1)-api.MaxNum, api.MaxNum-r.Intn(50)
	case 2:
		n, d = r.Intn(20001)-10000, 1000000
	}
	x, _ := rat.Make(n, d)
	return x
}

// spanOf is a random span, now and then of one number.
func spanOf(r *rand.Rand) api.Span {
	a, b := number(r), number(r)
	if r.Intn(8) == 0 {
		b = a
	}
	if toBig(a).Cmp(toBig(b)) > 0 {
		a, b = b, a
	}
	return api.Span{Lo: a, Hi: b}
}

func grid(r *rand.Rand) int {
	return []int{1, 2, 3, 10, 1000, 999983, api.MaxGrid, 1 + r.Intn(api.MaxGrid)}[r.Intn(8)]
}

// answer is a call with what it has to return.
type answer struct {
	name string
	x    api.Span
	e    api.Errno
	want api.Span
	err  api.Errno
}

func check(t *testing.T, l ...answer) {
	t.Helper()
	for _, a := range l {
		if a.x != a.want || a.e != a.err {
			t.Errorf("%s: %v %v, not %v %v", a.name, a.x, a.e, a.want, a.err)
		}
	}
}
