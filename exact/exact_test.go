package exact

import (
	"math"
	"math/big"
	"math/rand"
	"testing"

	"isocline/api"
)

// toBig returns the number in the form of the library, from its limbs or its small form.
func toBig(t *testing.T, x Int) *big.Int {
	t.Helper()
	if len(x.limbs) == 0 {
		if x.neg || x.small == math.MinInt64 {
			t.Fatalf("not in its one form: %+v", x)
		}
		return big.NewInt(x.small)
	}
	if x.small != 0 || x.limbs[len(x.limbs)-1] == 0 || len(x.limbs) == 1 && x.limbs[0] <= math.MaxInt64 {
		t.Fatalf("not in its one form: %+v", x)
	}
	z := new(big.Int)
	for i := len(x.limbs) - 1; i >= 0; i-- {
		z.Lsh(z, 64)
		z.Or(z, new(big.Int).SetUint64(x.limbs[i]))
	}
	if x.neg {
		z.Neg(z)
	}
	return z
}

// samples returns numbers of up to size limbs, among them such that make carries and wrong first guesses.
func samples(r *rand.Rand, size, count int) []Int {
	edges := []uint64{0, 1, 2, math.MaxInt64, math.MaxInt64 + 1, math.MaxInt64 + 2, math.MaxUint64, math.MaxUint64 - 1, 1 << 32, 1<<32 - 1}
	var l []Int
	for range count {
		m := make(nat, r.Intn(size+1))
		for i := range m {
			m[i] = edges[r.Intn(len(edges))]
			if r.Intn(2) == 0 {
				m[i] = r.Uint64() >> uint(r.Intn(64))
			}
		}
		l = append(l, signed(r.Intn(2) == 0, trim(m)))
	}
	return l
}

func TestIntAgainstLibrary(t *testing.T) {
	r := rand.New(rand.NewSource(1))
	for range 20000 {
		l := samples(r, 6, 2)
		x, y := l[0], l[1]
		a, b := toBig(t, x), toBig(t, y)
		same := func(what string, got Int, want *big.Int) {
			if toBig(t, got).Cmp(want) != 0 {
				t.Fatalf("%s of %v and %v: %v, not %v", what, a, b, toBig(t, got), want)
			}
		}
		same("Add", x.Add(y), new(big.Int).Add(a, b))
		same("Sub", x.Sub(y), new(big.Int).Sub(a, b))
		same("Mul", x.Mul(y), new(big.Int).Mul(a, b))
		same("Neg", x.Neg(), new(big.Int).Neg(a))
		same("Gcd", x.Gcd(y), new(big.Int).GCD(nil, nil, new(big.Int).Abs(a), new(big.Int).Abs(b)))
		if y.Sign() != 0 {
			same("Quo", x.Quo(y), new(big.Int).Quo(a, b))
			same("Quo of a product", x.Mul(y).Quo(y), a)
		}
		same("Abs", x.Abs(), new(big.Int).Abs(a))
		if y.Sign() > 0 {
			same("Floor", x.Floor(y), new(big.Int).Div(a, b))
			same("Floor of a product", x.Mul(y).Floor(y), a)
		}
		if x.Cmp(y) != a.Cmp(b) || x.Cmp(x) != 0 {
			t.Fatalf("Cmp of %v and %v: %d", a, b, x.Cmp(y))
		}
		if x.Sign() != a.Sign() {
			t.Fatalf("Sign of %v: %d", a, x.Sign())
		}
		if a.Cmp(toBig(t, x)) != 0 || b.Cmp(toBig(t, y)) != 0 {
			t.Fatal("an argument was changed")
		}
	}
}

func TestWrongGuesses(t *testing.T) {
	top, all := uint64(1)<<63, uint64(math.MaxUint64)
	for _, c := range [][2]nat{
		{{0, 0, top}, {all, top}},
		{{0, all, top - 1}, {all, top}},
		{{all, all, all}, {all, all}},
		{{0, 0, 0, top}, {1, 0, top}},
		{{3, 0, top}, {1, 0, top >> 2}},
		{{0, 0, 1, top}, {all, all, top}},
		{{0, all - 1, top}, {all, top}},
	} {
		x, y := signed(false, c[0]), signed(false, c[1])
		a, b := toBig(t, x), toBig(t, y)
		q, r := c[0].div(c[1])
		wantQ, wantR := new(big.Int).QuoRem(a, b, new(big.Int))
		if toBig(t, signed(false, q)).Cmp(wantQ) != 0 || toBig(t, signed(false, r)).Cmp(wantR) != 0 {
			t.Errorf("%v by %v: %v and %v", a, b, q, r)
		}
	}
}

func TestIntEnds(t *testing.T) {
	for _, n := range []int{0, 1, -1, math.MaxInt, -math.MaxInt, math.MinInt} {
		if toBig(t, NewInt(n)).Cmp(big.NewInt(int64(n))) != 0 {
			t.Errorf("NewInt of %d", n)
		}
	}
	low := NewInt(math.MinInt)
	if _, small := low.Small(); small {
		t.Error("the least int is small")
	}
	if toBig(t, NewInt(-math.MaxInt).Add(NewInt(-1))).Cmp(toBig(t, low)) != 0 {
		t.Error("the least int as a sum")
	}
	if n, small := low.Add(NewInt(1)).Small(); !small || n != -math.MaxInt64 {
		t.Errorf("%d %v", n, small)
	}
	if p := toBig(t, NewInt(-3).Power(5)); p.Int64() != -243 {
		t.Errorf("Power: %v", p)
	}
	if p := toBig(t, NewInt(0).Power(0)); p.Int64() != 1 {
		t.Errorf("Power with 0: %v", p)
	}
}

func TestGcd(t *testing.T) {
	for _, c := range [][3]uint64{{0, 0, 0}, {0, 5, 5}, {5, 0, 5}, {12, 18, 6}, {1 << 63, 1 << 40, 1 << 40}, {math.MaxUint64, math.MaxUint64, math.MaxUint64}, {7, 13, 1}} {
		if g := Gcd(c[0], c[1]); g != c[2] {
			t.Errorf("Gcd of %d and %d: %d", c[0], c[1], g)
		}
	}
}

func toBigRat(t *testing.T, x Ratio) *big.Rat {
	t.Helper()
	n, d := toBig(t, x.n), toBig(t, x.d)
	z := new(big.Rat).SetFrac(n, d)
	if z.Num().Cmp(n) != 0 || z.Denom().Cmp(d) != 0 {
		t.Fatalf("not in lowest terms: %v / %v", n, d)
	}
	return z
}

func TestRatioAgainstLibrary(t *testing.T) {
	r := rand.New(rand.NewSource(2))
	one := NewInt(1)
	for range 5000 {
		l := samples(r, 3, 4)
		if l[1].Sign() == 0 {
			l[1] = one
		}
		if l[3].Sign() == 0 || r.Intn(4) == 0 {
			l[3] = l[1] // a common denominator, so that a sum can be shortened
		}
		x, y := NewRatio(l[0], l[1]), NewRatio(l[2], l[3])
		a, b := toBigRat(t, x), toBigRat(t, y)
		if a.Cmp(new(big.Rat).SetFrac(toBig(t, l[0]), toBig(t, l[1]))) != 0 {
			t.Fatalf("NewRatio: %v", a)
		}
		same := func(what string, got Ratio, want *big.Rat) {
			if toBigRat(t, got).Cmp(want) != 0 {
				t.Fatalf("%s of %v and %v: %v, not %v", what, a, b, toBigRat(t, got), want)
			}
		}
		same("Add", x.Add(y), new(big.Rat).Add(a, b))
		same("Sub", x.Sub(y), new(big.Rat).Sub(a, b))
		same("Mul", x.Mul(y), new(big.Rat).Mul(a, b))
		same("Sub of itself", x.Sub(x), new(big.Rat))
		if y.Sign() != 0 {
			same("Quo", x.Quo(y), new(big.Rat).Quo(a, b))
			same("Power", y.Power(-2), new(big.Rat).Inv(new(big.Rat).Mul(b, b)))
		}
		if x.Cmp(y) != a.Cmp(b) || x.Sign() != a.Sign() {
			t.Fatalf("Cmp of %v and %v: %d", a, b, x.Cmp(y))
		}
	}
}

func TestRat(t *testing.T) {
	most := NewInt(api.MaxNum)
	over := most.Add(NewInt(1))
	for _, c := range []struct {
		x    Ratio
		want api.Rat
		err  api.Errno
	}{
		{NewRatio(most, NewInt(-1)), api.Rat{N: -api.MaxNum, D: 1}, api.OK},
		{NewRatio(NewInt(1), most), api.Rat{N: 1, D: api.MaxNum}, api.OK},
		{NewRatio(over, NewInt(1)), api.Rat{}, api.ErrLarge},
		{NewRatio(over.Neg(), NewInt(1)), api.Rat{}, api.ErrLarge},
		{NewRatio(NewInt(1), over), api.Rat{}, api.ErrLarge},
		{Whole(10).Power(60), api.Rat{}, api.ErrLarge},
		{Whole(10).Power(-60), api.Rat{}, api.ErrLarge},
		{Of(api.Rat{N: -3, D: 7}), api.Rat{N: -3, D: 7}, api.OK},
	} {
		if r, e := c.x.Rat(); r != c.want || e != c.err {
			t.Errorf("%v %v, not %v %v", r, e, c.want, c.err)
		}
	}
}
