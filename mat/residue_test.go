package mat

import (
	"math/big"
	"math/rand"
	"testing"

	"isocline/api"
	"isocline/exact"
)

// toExact returns x, which is not below 0, by its digits to the base 2^30.
func toExact(x *big.Int) exact.Int {
	sum := exact.NewInt(0)
	for i := x.BitLen()/30 + 1; i >= 0; i-- {
		digit := new(big.Int).And(new(big.Int).Rsh(x, uint(30*i)), big.NewInt(1<<30-1))
		sum = sum.Mul(exact.NewInt(1 << 30)).Add(exact.NewInt(int(digit.Int64())))
	}
	return sum
}

func prime() *big.Int {
	one := big.NewInt(1)
	return new(big.Int).Sub(new(big.Int).Lsh(one, 89), one)
}

// residue returns that of n / d.
func residue(n, d *big.Int) exact.Int {
	p := prime()
	r := new(big.Int).Mul(n, new(big.Int).ModInverse(d, p))
	return toExact(r.Mod(r, p))
}

func TestField(t *testing.T) {
	f := newField()
	if p := prime(); !p.ProbablyPrime(20) || f.prime.Cmp(toExact(p)) != 0 {
		t.Fatal("not the prime")
	}
	r := rand.New(rand.NewSource(10))
	for range 20000 {
		limit := []int64{2, 1000, 1000000, api.MaxNum, api.MaxNum}[r.Intn(5)]
		n, d := big.NewInt(r.Int63n(2*limit+1)-limit), big.NewInt(r.Int63n(limit)+1)
		x, _ := numberOf(new(big.Rat).SetFrac(n, d))
		if f.number(x).Cmp(residue(n, d)) != 0 || !f.isNumber(residue(n, d)) {
			t.Fatalf("%v", x)
		}
	}
	most := big.NewInt(api.MaxNum)
	over := new(big.Int).Add(most, big.NewInt(1))
	for _, c := range []struct {
		n, d *big.Int
		is   bool
	}{
		{most, big.NewInt(1), true}, {new(big.Int).Neg(most), big.NewInt(1), true}, {big.NewInt(1), most, true}, {big.NewInt(999999999999), most, true},
		{over, big.NewInt(1), false}, {big.NewInt(1), over, false}, {new(big.Int).Neg(over), most, false},
		{big.NewInt(0), big.NewInt(1), true}, {most, big.NewInt(999999999989), true},
	} {
		if f.isNumber(residue(c.n, c.d)) != c.is {
			t.Errorf("%v / %v: not %v", c.n, c.d, c.is)
		}
	}
}

// disguised returns numbers x and y that differ, of which x * x and y have the same residue.
func disguised(r *rand.Rand) (x, y api.Rat) {
	f := newField()
	for {
		x, _ = numberOf(big.NewRat(r.Int63n(api.MaxNum)+1, r.Int63n(api.MaxNum)+1))
		square := f.mod(f.number(x).Mul(f.number(x)))
		rest, under := f.descend(square, exact.NewInt(api.MaxNum))
		y, e := exact.Number(rest, under)
		if e == api.OK && f.number(y).Cmp(square) == 0 && toBig(y).Cmp(new(big.Rat).Mul(toBig(x), toBig(x))) != 0 {
			return x, y
		}
	}
}

// TestDisguise has matrices whose powers look representable, or dependent, modulo the prime, but are not.
func TestDisguise(t *testing.T) {
	r := rand.New(rand.NewSource(11))
	for range 3 {
		x, y := disguised(r)
		m, e := Power(scaled(2, x), 2)
		sameMat(t, "Power", m, e, api.Mat{}, api.ErrLarge)
		// The polynomial t^2 - y is zero at the first block, and at x only modulo the prime.
		block := api.Mat{R: 2, C: 2, V: []api.Rat{q(0, 1), y, q(1, 1), q(0, 1)}}
		both := beside(block, api.Mat{R: 1, C: 1, V: []api.Rat{x}})
		if len(independent(both)) != 2 {
			t.Errorf("%v is not dependent", both)
		}
		p, e := Minimal(both)
		sameList(t, "Minimal", p, e, nil, api.ErrLarge)
	}
}
