package mat

import (
	"isocline/api"
	"isocline/exact"
)

// view looks at the rows and columns of a matrix that Validate takes.
type view struct {
	api.Mat
}

// row returns a part of the matrix, without room behind it: what is appended does not run into the next row.
func (v view) row(i int) []api.Rat {
	return v.V[i*v.C : (i+1)*v.C : (i+1)*v.C]
}

func (v view) column(j int) []api.Rat {
	l := make([]api.Rat, v.R)
	for i := range l {
		l[i] = v.row(i)[j]
	}
	return l
}

// line is a row or a column without fractions: whole numbers over their common denominator.
type line struct {
	whole []exact.Int
	under exact.Int
}

// lines returns the rows or the columns that at looks at.
func lines(count int, at func(int) []api.Rat) []line {
	l := make([]line, count)
	for i := range l {
		whole, under := exact.Share(at(i))
		l[i] = line{whole, under}
	}
	return l
}

// rows returns the whole numbers of lines.
func rows(l []line) exact.Grid {
	g := make(exact.Grid, len(l))
	for i := range l {
		g[i] = l[i].whole
	}
	return g
}

// product returns the product of the denominators.
func product(l []line) exact.Int {
	p := exact.NewInt(1)
	for _, x := range l {
		p = p.Mul(x.under)
	}
	return p
}
