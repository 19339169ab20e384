package exact

// Dips reports whether p has a value below 0 from one number to another one, which is not less, both included.
func (p Poly) Dips(from, to Ratio) bool {
	if p.signAt(from) < 0 || p.signAt(to) < 0 {
		return true
	}
	if len(p) == 0 || from.Cmp(to) == 0 {
		return false
	}
	return p.signBehind(from) < 0 || p.turns(from, to) > 0
}

// signAt returns the sign of the value at x.
func (p Poly) signAt(x Ratio) int {
	return p.Value(x.n, x.d).Sign()
}

// signBehind returns the sign of p, which is not zero, just above x.
func (p Poly) signBehind(x Ratio) int {
	for p.signAt(x) == 0 {
		p = p.Derive()
	}
	return p.signAt(x)
}

// turns returns how often the sign of p, which is not zero, changes between two numbers: at each root that p has an odd
// number of times. Those that it has once or more, twice or more, and so on, are counted in turn with other signs.
func (p Poly) turns(from, to Ratio) int {
	n, sign := 0, 1
	for p.Degree() > 0 {
		row := p.Remainders(p.Derive())
		again, _ := row[len(row)-1].Primitive()
		for i, q := range row {
			row[i] = q.Quo(again)
		}
		n += sign * lost(row, from, to)
		p, sign = again, -sign
	}
	return n
}

// lost returns the number of roots of the first polynomial of a Sturm chain between two numbers, both left out.
func lost(chain []Poly, from, to Ratio) int {
	n := changes(chain, from) - changes(chain, to)
	if chain[0].signAt(to) == 0 {
		n--
	}
	return n
}

// changes returns how often the sign at x changes along a row, noughts left out.
func changes(row []Poly, x Ratio) int {
	n, last := 0, 0
	for _, p := range row {
		s := p.signAt(x)
		if s*last < 0 {
			n++
		}
		if s != 0 {
			last = s
		}
	}
	return n
}
