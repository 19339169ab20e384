package exact

import (
	"math"
	"math/big"
	"math/rand"
	"slices"
	"testing"
)

// many is a polynomial in the form of the library, by the exponents as texts.
type many map[string]*big.Rat

// manyOf tells a polynomial in that form, and fails where its own form is not the one that it has to be.
func manyOf(t *testing.T, p Many) many {
	t.Helper()
	m := many{}
	for i, s := range p {
		if s.C.Sign() == 0 || i > 0 && p[i-1].X <= s.X {
			t.Fatalf("not in its one form: %v", p)
		}
		m[s.X] = toBigRat(t, s.C)
	}
	return m
}

func (m many) add(x string, c *big.Rat) {
	sum := new(big.Rat).Set(c)
	if old, ok := m[x]; ok {
		sum.Add(sum, old)
	}
	m[x] = sum
	if sum.Sign() == 0 {
		delete(m, x)
	}
}

func (m many) times(k many) many {
	p := many{}
	for x, c := range m {
		for y, d := range k {
			z := []byte(x)
			for i := range z {
				z[i] += y[i]
			}
			p.add(string(z), new(big.Rat).Mul(c, d))
		}
	}
	return p
}

func (m many) equal(k many) bool {
	for x, c := range m {
		if d, ok := k[x]; !ok || c.Cmp(d) != 0 {
			return false
		}
	}
	return len(m) == len(k)
}

// randomMany is a polynomial of some terms, which need not be different, in so many unknowns.
func randomMany(r *rand.Rand, unknowns, degree int) Many {
	p := Fixed(Whole(0), unknowns)
	for range r.Intn(7) {
		s := Fixed(NewRatio(NewInt(r.Intn(13)-6), NewInt(1+r.Intn(3))), unknowns)
		for range r.Intn(degree + 1) {
			if unknowns > 0 {
				s = s.Mul(Unknown(r.Intn(unknowns), unknowns))
			}
		}
		p = p.Add(s)
	}
	return p
}

func TestManyAgainstLibrary(t *testing.T) {
	r := rand.New(rand.NewSource(30))
	for range 5000 {
		unknowns := r.Intn(4)
		p, q := randomMany(r, unknowns, 4), randomMany(r, unknowns, 4)
		a, b := manyOf(t, p), manyOf(t, q)
		kept, keptToo := slices.Clone(p), slices.Clone(q)
		same := func(what string, got Many, want many) {
			if !manyOf(t, got).equal(want) {
				t.Fatalf("%s of %v and %v: %v, not %v", what, p, q, got, want)
			}
		}
		sum, difference := many{}, many{}
		for x, c := range a {
			sum.add(x, c)
			difference.add(x, c)
		}
		degree, bits := -1, 0
		for x, c := range b {
			sum.add(x, c)
			difference.add(x, new(big.Rat).Neg(c))
			n := 0
			for _, k := range []byte(x) {
				n += int(k)
			}
			degree, bits = max(degree, n), max(bits, c.Num().BitLen(), c.Denom().BitLen())
		}
		same("Add", p.Add(q), sum)
		same("Sub", p.Sub(q), difference)
		same("Mul", p.Mul(q), a.times(b))
		same("Scale", q.Scale(NewRatio(NewInt(-3), NewInt(2))), b.times(many{string(make([]byte, unknowns)): big.NewRat(-3, 2)}))
		same("Scale", q.Scale(Whole(0)), many{})
		if q.Degree() != degree || q.Bits() != bits {
			t.Fatalf("Degree and Bits of %v: %d %d, not %d %d", q, q.Degree(), q.Bits(), degree, bits)
		}
		for i := range unknowns {
			slope := many{}
			for x, c := range a {
				if n := x[i]; n > 0 {
					y := []byte(x)
					y[i]--
					slope.add(string(y), new(big.Rat).Mul(c, big.NewRat(int64(n), 1)))
				}
			}
			same("Derive", p.Derive(i), slope)
		}
		if !slices.EqualFunc(p, kept, sameTerm) || !slices.EqualFunc(q, keptToo, sameTerm) {
			t.Fatalf("%v and %v were changed", kept, keptToo)
		}
	}
}

func sameTerm(s, t Term) bool { return s.X == t.X && s.C.Cmp(t.C) == 0 }

func TestManyPower(t *testing.T) {
	r := rand.New(rand.NewSource(31))
	for range 2000 {
		unknowns := r.Intn(4)
		p, n := randomMany(r, unknowns, 3), 1+r.Intn(6)
		if len(p) == 0 {
			continue
		}
		want := many{string(make([]byte, unknowns)): big.NewRat(1, 1)}
		for range n {
			want = want.times(manyOf(t, p))
		}
		if got := slices.Collect(p.Power(n)); !manyOf(t, got).equal(want) {
			t.Fatalf("%v to the power %d: %v, not %v", p, n, got, want)
		}
	}
}

// TestManyPowerGaps has powers in which terms between others are 0: those must not end the power.
func TestManyPowerGaps(t *testing.T) {
	row := func(l ...int) Many {
		p := Fixed(Whole(0), 1)
		x := Unknown(0, 1)
		for _, c := range l {
			p = p.Mul(x).Add(Fixed(Whole(c), 1))
		}
		return p
	}
	// The beginning of the root of 1 + 4t, and others whose squares or cubes have gaps.
	for _, p := range []Many{row(1, 2, -2, 4, -10, 28, -84), row(1, 2, -2, 4, -10, 50, 125), row(1, 1, -1, 2), row(1, 3, -3), row(1, 0, 0, 5, 0, -2), row(1, -1, 1, -1, 1, -1), row(125, 50, -10, 4, -2, 2, 1)} {
		for n := 1; n <= 6; n++ {
			want := many{"\x00": big.NewRat(1, 1)}
			for range n {
				want = want.times(manyOf(t, p))
			}
			if got := slices.Collect(p.Power(n)); !manyOf(t, got).equal(want) {
				t.Errorf("%v to the power %d: %v", p, n, got)
			}
		}
	}
	square := slices.Collect(row(1, 2, -2, 4, -10, 28, -84).Power(2))
	if len(square) > 9 {
		t.Errorf("no gap in %v", square)
	}
}

// TestManyPowerFirst asks for the first terms of a power with some two hundred million of them.
func TestManyPowerFirst(t *testing.T) {
	const unknowns = 70
	p := Fixed(Whole(1), unknowns)
	for i := range unknowns {
		p = p.Add(Unknown(i, unknowns))
	}
	var first []Term
	for s := range p.Power(6) {
		first = append(first, s)
		if len(first) == 200 {
			break
		}
	}
	if first[0].X[0] != 6 || first[0].C.Cmp(Whole(1)) != 0 || first[1].X[:2] != "\x05\x01" || first[1].C.Cmp(Whole(6)) != 0 {
		t.Errorf("the first terms: %v", first[:2])
	}
	if manyOf(t, first); first[72].X[:3] != "\x04\x01\x01" || first[72].C.Cmp(Whole(30)) != 0 {
		t.Errorf("the term 72: %v", first[72])
	}
}

func TestBits(t *testing.T) {
	for _, n := range []int{0, 1, 2, 3, 4, 255, 256, math.MaxInt64} {
		want := big.NewInt(int64(n)).BitLen()
		if NewInt(n).Bits() != want || NewInt(-n).Bits() != want {
			t.Errorf("Bits of %d: %d", n, NewInt(n).Bits())
		}
	}
	for _, k := range []int{62, 63, 64, 65, 127, 128, 129, 4095, 4096, 4097} {
		x := NewInt(2).Power(k)
		if x.Bits() != k+1 || x.Neg().Bits() != k+1 || x.Sub(NewInt(1)).Bits() != k {
			t.Errorf("Bits of 2^%d: %d %d", k, x.Bits(), x.Sub(NewInt(1)).Bits())
		}
		if NewRatio(NewInt(3), x).Bits() != k+1 || NewRatio(x.Neg(), NewInt(3)).Bits() != k+1 {
			t.Errorf("Bits of ratios of 2^%d", k)
		}
	}
}
