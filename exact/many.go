package exact

import (
	"cmp"
	"iter"
	"slices"
)

// Term is a coefficient, not 0, and the exponents of all unknowns, one byte each.
type Term struct {
	C Ratio
	X string
}

// Many is a polynomial in several unknowns: its terms in descending order of their exponents; zero has none.
// Polynomials that are calculated with have as many unknowns, and no exponent of theirs gets above 255.
type Many []Term

// Fixed returns the polynomial c in so many unknowns.
func Fixed(c Ratio, unknowns int) Many {
	return gather([]Term{{c, string(make([]byte, unknowns))}})
}

// Unknown returns the polynomial that is the unknown i of so many.
func Unknown(i, unknowns int) Many {
	x := make([]byte, unknowns)
	x[i] = 1
	return Many{{Whole(1), string(x)}}
}

// gather returns the sum of the terms, which may have any coefficients; it keeps the list.
func gather(l []Term) Many {
	slices.SortStableFunc(l, func(s, t Term) int { return cmp.Compare(t.X, s.X) })
	sums := l[:0]
	for i := 0; i < len(l); {
		t := l[i]
		for i++; i < len(l) && l[i].X == t.X; i++ {
			t.C = t.C.Add(l[i].C)
		}
		if t.C.Sign() != 0 {
			sums = append(sums, t)
		}
	}
	return sums
}

// Add returns p + q.
func (p Many) Add(q Many) Many {
	return gather(slices.Concat(p, q))
}

// Sub returns p - q.
func (p Many) Sub(q Many) Many {
	return p.Add(q.Scale(Whole(-1)))
}

// Scale returns k * p.
func (p Many) Scale(k Ratio) Many {
	l := slices.Clone(p)
	for i := range l {
		l[i].C = k.Mul(l[i].C)
	}
	return gather(l)
}

// Mul returns p * q.
func (p Many) Mul(q Many) Many {
	var l []Term
	for _, s := range p {
		for _, t := range q {
			l = append(l, Term{s.C.Mul(t.C), plus(s.X, t.X)})
		}
	}
	return gather(l)
}

// Derive returns the derivative by the unknown i.
func (p Many) Derive(i int) Many {
	var l []Term
	for _, t := range p {
		if n := int(t.X[i]); n > 0 {
			x := []byte(t.X)
			x[i]--
			l = append(l, Term{t.C.Mul(Whole(n)), string(x)})
		}
	}
	return gather(l)
}

// Degree returns the greatest sum of the exponents of a term, that of zero as -1.
func (p Many) Degree() int {
	most := -1
	for _, t := range p {
		sum := 0
		for i := range len(t.X) {
			sum += int(t.X[i])
		}
		most = max(most, sum)
	}
	return most
}

// Bits returns how many binary digits the longest numerator or denominator of a coefficient has.
func (p Many) Bits() int {
	most := 0
	for _, t := range p {
		most = max(most, t.C.Bits())
	}
	return most
}

// Power yields the terms of the n-th power, each one calculated when it is asked; p is not zero, and n is above 0.
func (p Many) Power(n int) iter.Seq[Term] {
	return func(yield func(Term) bool) {
		first := p[0].X
		for range n - 1 {
			first = plus(first, p[0].X)
		}
		w := powers{p, n, first, map[string]Ratio{}, []string{first}}
		for {
			t, ok := w.next()
			if !ok || !yield(t) {
				return
			}
		}
	}
}

// powers are the terms of the n-th power of p, from the greatest exponents down.
// Of q = p^n it is p * Dq = n * q * Dp, where D is the derivative by an unknown, times this unknown.
// That tells a coefficient of q by those of greater exponents; where all these are 0, it is 0.
// So what is met is little more than what is yielded, however many terms there are.
type powers struct {
	p     Many
	n     int
	first string           // the greatest exponents
	known map[string]Ratio // the coefficients that were met and are not 0
	open  []string         // the exponents to come, ascending
}

// next returns the next term, and whether there is one.
func (w *powers) next() (Term, bool) {
	for len(w.open) > 0 {
		last := len(w.open) - 1
		x := w.open[last]
		w.open = w.open[:last]
		c := w.coefficient(x)
		if c.Sign() != 0 {
			w.known[x] = c
			w.follow(x)
			return Term{c, x}, true
		}
	}
	return Term{}, false
}

// coefficient returns that of the exponents x, where those of greater ones are known.
func (w *powers) coefficient(x string) Ratio {
	lead := w.p[0]
	if x == w.first {
		return lead.C.Power(w.n)
	}
	by := 0 // an unknown by which x differs from the greatest exponents
	for x[by] == w.first[by] {
		by++
	}
	sum := Whole(0)
	for _, t := range w.p[1:] {
		from, ok := minus(plus(x, lead.X), t.X)
		if c, known := w.known[from]; ok && known {
			k := w.n*int(t.X[by]) - int(from[by])
			sum = sum.Add(t.C.Mul(c).Mul(Whole(k)))
		}
	}
	return sum.Quo(lead.C.Mul(Whole(int(x[by]) - int(w.first[by]))))
}

// follow opens the exponents whose coefficients depend on that of x.
func (w *powers) follow(x string) {
	for _, t := range w.p[1:] {
		to, ok := minus(plus(x, t.X), w.p[0].X)
		if i, open := slices.BinarySearch(w.open, to); ok && !open {
			w.open = slices.Insert(w.open, i, to)
		}
	}
}

// plus returns the sums of the exponents.
func plus(x, y string) string {
	l := []byte(x)
	for i := range l {
		l[i] += y[i]
	}
	return string(l)
}

// minus returns the differences of the exponents, and whether none is below 0.
func minus(x, y string) (string, bool) {
	l := []byte(x)
	for i := range l {
		if l[i] < y[i] {
			return "", false
		}
		l[i] -= y[i]
	}
	return string(l), true
}
