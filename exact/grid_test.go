package exact

import (
	"math/big"
	"math/rand"
	"slices"
	"testing"
)

// grids returns a matrix of samples, with some rows that are sums of others.
func grids(r *rand.Rand, rows, columns int) Grid {
	g := make(Grid, rows)
	for i := range g {
		g[i] = samples(r, 2, columns)
		if i > 1 && r.Intn(4) == 0 {
			for j := range g[i] {
				g[i][j] = g[i-1][j].Add(g[i-2][j])
			}
		}
	}
	return g
}

func bigGrid(t *testing.T, g Grid) [][]*big.Rat {
	m := make([][]*big.Rat, len(g))
	for i, row := range g {
		for _, x := range row {
			m[i] = append(m[i], new(big.Rat).SetInt(toBig(t, x)))
		}
	}
	return m
}

// bigReduce brings m into the reduced form, and returns the columns of the pivots and the determinant, if m is square.
func bigReduce(m [][]*big.Rat) ([]int, *big.Rat) {
	var pivots []int
	det := big.NewRat(1, 1)
	for column := 0; len(m) > 0 && column < len(m[0]); column++ {
		at := len(pivots)
		i := slices.IndexFunc(m[at:], func(row []*big.Rat) bool { return row[column].Sign() != 0 })
		if i < 0 {
			det.SetInt64(0)
			continue
		}
		if i > 0 {
			m[at], m[at+i] = m[at+i], m[at]
			det.Neg(det)
		}
		det.Mul(det, m[at][column])
		by := new(big.Rat).Inv(m[at][column])
		for _, x := range m[at] {
			x.Mul(x, by)
		}
		for i := range m {
			k := new(big.Rat).Set(m[i][column])
			for j, x := range m[at] {
				if i != at {
					m[i][j].Sub(m[i][j], new(big.Rat).Mul(k, x))
				}
			}
		}
		pivots = append(pivots, column)
	}
	return pivots, det
}

func TestGridAgainstLibrary(t *testing.T) {
	r := rand.New(rand.NewSource(21))
	for range 1000 {
		rows, columns := r.Intn(6), r.Intn(6)
		if r.Intn(3) == 0 {
			columns = rows
		}
		g := grids(r, rows, columns)
		want := bigGrid(t, g)
		kept := bigGrid(t, g)
		reduced, by, pivots := g.Reduce()
		wantPivots, det := bigReduce(want)
		if !slices.Equal(pivots, wantPivots) {
			t.Fatalf("Reduce: pivots %v, not %v", pivots, wantPivots)
		}
		d := new(big.Rat).SetInt(toBig(t, by))
		got := bigGrid(t, reduced)
		for i := range want {
			for j := range want[i] {
				if got[i][j].Cmp(new(big.Rat).Mul(want[i][j], d)) != 0 {
					t.Fatalf("Reduce: %v at %d, %d", got[i][j], i, j)
				}
			}
		}
		if rows == columns && toBig(t, g.Det()).Cmp(det.Num()) != 0 {
			t.Fatalf("Det: %v, not %v", toBig(t, g.Det()), det)
		}
		for i, row := range bigGrid(t, g) {
			if !slices.EqualFunc(row, kept[i], func(x, y *big.Rat) bool { return x.Cmp(y) == 0 }) {
				t.Fatal("an argument was changed")
			}
		}
	}
}

func TestGridProducts(t *testing.T) {
	r := rand.New(rand.NewSource(22))
	for range 200 {
		n := r.Intn(5)
		g, h := grids(r, n, n), grids(r, n, n)
		product := bigGrid(t, g.Mul(h))
		less := bigGrid(t, g.Mul(Unit(n)).Each(Int.Neg))
		a, b := bigGrid(t, g), bigGrid(t, h)
		for i := range n {
			for j := range n {
				sum := new(big.Rat)
				for k := range n {
					sum.Add(sum, new(big.Rat).Mul(a[i][k], b[k][j]))
				}
				if product[i][j].Cmp(sum) != 0 || less[i][j].Cmp(new(big.Rat).Neg(a[i][j])) != 0 {
					t.Fatalf("Mul: %v at %d, %d", product, i, j)
				}
			}
		}
	}
}

func TestThrough(t *testing.T) {
	r := rand.New(rand.NewSource(23))
	for range 1000 {
		p := NewPoly(samples(r, 3, r.Intn(14)))
		values := make([]Int, max(len(p), r.Intn(15)))
		for i := range values {
			values[i] = p.Value(NewInt(i), NewInt(1))
		}
		kept := slices.Clone(values)
		got := Through(values)
		if len(got) != len(p) || !slices.EqualFunc(got, p, func(x, y Int) bool { return x.Cmp(y) == 0 }) {
			t.Fatalf("Through %v: %v, not %v", values, got, p)
		}
		if !slices.EqualFunc(values, kept, func(x, y Int) bool { return x.Cmp(y) == 0 }) {
			t.Fatal("an argument was changed")
		}
	}
}
