package mat

import "isocline/api"

// Definite returns how many eigenvalues of a symmetric matrix are above 0, equal to 0, and below 0.
func Definite(m api.Mat) (int, int, int, api.Errno) {
	if e := squareErrors(m); e != api.OK {
		return 0, 0, 0, e
	}
	if !isSymmetric(m) {
		return 0, 0, 0, api.ErrArg
	}
	// All eigenvalues are real: the rule of signs counts them exactly.
	p, _ := characteristic(m)
	zero := 0
	for p[zero].Sign() == 0 {
		zero++
	}
	above := 0
	last := p[zero].Sign()
	for _, c := range p[zero:] {
		if c.Sign()*last < 0 {
			above++
			last = -last
		}
	}
	return above, zero, m.R - above - zero, api.OK
}

func isSymmetric(m api.Mat) bool {
	a := view{m}
	for i := range m.R {
		for j := range i {
			if a.row(i)[j] != a.row(j)[i] {
				return false
			}
		}
	}
	return true
}
