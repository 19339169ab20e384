package exact

import "slices"

// Grid is a matrix of whole numbers: rows of one length. They are never changed once it has been made.
type Grid [][]Int

// Unit returns the unit matrix of n rows.
func Unit(n int) Grid {
	g := make(Grid, n)
	for i := range g {
		g[i] = make([]Int, n)
		g[i][i] = NewInt(1)
	}
	return g
}

// Dot returns the sum of the products a[i] * b[i]; b is at least as long as a.
func Dot(a, b []Int) Int {
	var sum Int
	for i, x := range a {
		sum = sum.Add(x.Mul(b[i]))
	}
	return sum
}

// Each returns the matrix of what the numbers become.
func (g Grid) Each(become func(Int) Int) Grid {
	made := make(Grid, len(g))
	for i, row := range g {
		made[i] = make([]Int, len(row))
		for j, x := range row {
			made[i][j] = become(x)
		}
	}
	return made
}

// Mul returns the product with h, which is square as g is, and as large.
func (g Grid) Mul(h Grid) Grid {
	product := make(Grid, len(g))
	for i := range product {
		product[i] = make([]Int, len(g))
	}
	column := make([]Int, len(h))
	for j := range h {
		for k, row := range h {
			column[k] = row[j]
		}
		for i, row := range g {
			product[i][j] = Dot(row, column)
		}
	}
	return product
}

// elimination brings rows into a simpler form without fractions: with each step divided by the pivot of the one before,
// all numbers in between are determinants of those at the beginning, and no longer.
type elimination struct {
	rows   Grid
	pivots []int // their columns
	last   Int   // the last pivot, 1 as long as there is none
	odd    bool  // whether rows have changed places an odd number of times
}

func (g Grid) eliminate() *elimination {
	return &elimination{rows: slices.Clone(g), last: NewInt(1)}
}

// find puts a row whose number in the column is not 0 behind those that have pivots, and reports whether there is one.
func (e *elimination) find(column int) bool {
	at := len(e.pivots)
	for i := at; i < len(e.rows); i++ {
		if e.rows[i][column].Sign() == 0 {
			continue
		}
		if i > at {
			e.rows[i], e.rows[at] = e.rows[at], e.rows[i]
			e.odd = !e.odd
		}
		return true
	}
	return false
}

// use makes the number of the row that was found a pivot: those of the column in the rows from first on become 0.
func (e *elimination) use(column, first int) {
	at := len(e.pivots)
	row := e.rows[at]
	for i := first; i < len(e.rows); i++ {
		if i != at {
			e.rows[i] = e.less(e.rows[i], row, column)
		}
	}
	e.pivots = append(e.pivots, column)
	e.last = row[column]
}

// less returns the combination of x and the row of the pivot that has 0 in the column.
func (e *elimination) less(x, row []Int, column int) []Int {
	made := make([]Int, len(x))
	for j := range x {
		made[j] = x[j].Mul(row[column]).Sub(row[j].Mul(x[column])).Quo(e.last)
	}
	return made
}

// Reduce returns the reduced form times a number, this number, which is not 0, and the columns of the pivots.
func (g Grid) Reduce() (Grid, Int, []int) {
	e := g.eliminate()
	for column := 0; len(g) > 0 && column < len(g[0]); column++ {
		if e.find(column) {
			e.use(column, 0)
		}
	}
	return e.rows, e.last, e.pivots
}

// Det returns the determinant of g, which is square; that of no rows is 1.
func (g Grid) Det() Int {
	e := g.eliminate()
	for column := range g {
		if !e.find(column) {
			return Int{}
		}
		e.use(column, column)
	}
	if e.odd {
		return e.last.Neg()
	}
	return e.last
}
