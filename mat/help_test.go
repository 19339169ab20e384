package mat

import (
	"math/big"
	"math/rand"
	"slices"
	"testing"

	"isocline/api"
	"isocline/rat"
)

func q(n, d int) api.Rat { return api.Rat{N: n, D: d} }

// whole is a list of whole numbers.
func whole(l ...int) []api.Rat {
	p := make([]api.Rat, len(l))
	for i, n := range l {
		p[i] = q(n, 1)
	}
	return p
}

// square is a square matrix of whole numbers.
func square(l ...int) api.Mat {
	n := 0
	for n*n < len(l) {
		n++
	}
	return api.Mat{R: n, C: n, V: whole(l...)}
}

// oblong is a matrix of r rows of whole numbers.
func oblong(r int, l ...int) api.Mat {
	return api.Mat{R: r, C: len(l) / r, V: whole(l...)}
}

// scaled is a unit matrix times x.
func scaled(n int, x api.Rat) api.Mat {
	m := api.Mat{R: n, C: n, V: noughts(n * n)}
	for i := range n {
		m.V[i*n+i] = x
	}
	return m
}

// plain is a matrix in the form of the library.
type plain [][]*big.Rat

func newPlain(r, c int) plain {
	p := make(plain, r)
	for i := range p {
		p[i] = make([]*big.Rat, c)
		for j := range p[i] {
			p[i][j] = new(big.Rat)
		}
	}
	return p
}

func unit(n int) plain {
	p := newPlain(n, n)
	for i := range p {
		p[i][i].SetInt64(1)
	}
	return p
}

func toBig(x api.Rat) *big.Rat { return big.NewRat(int64(x.N), int64(x.D)) }

func toPlain(m api.Mat) plain {
	p := newPlain(m.R, m.C)
	for i := range p {
		for j := range p[i] {
			p[i][j] = toBig(m.V[i*m.C+j])
		}
	}
	return p
}

func (p plain) mul(o plain) plain {
	c := 0
	if len(o) > 0 {
		c = len(o[0])
	}
	m := newPlain(len(p), c)
	for i := range m {
		for j := range m[i] {
			for k := range o {
				m[i][j].Add(m[i][j], new(big.Rat).Mul(p[i][k], o[k][j]))
			}
		}
	}
	return m
}

// add returns p + k * o.
func (p plain) add(o plain, k *big.Rat) plain {
	m := newPlain(len(p), 0)
	for i := range m {
		for j := range p[i] {
			m[i] = append(m[i], new(big.Rat).Add(p[i][j], new(big.Rat).Mul(k, o[i][j])))
		}
	}
	return m
}

func (p plain) trace() *big.Rat {
	s := new(big.Rat)
	for i := range p {
		s.Add(s, p[i][i])
	}
	return s
}

// reduce returns the reduced form and the columns of the pivots, by plain elimination with fractions.
func (p plain) reduce() (plain, []int) {
	m := p.add(p, new(big.Rat))
	var pivots []int
	for column := 0; len(m) > 0 && column < len(m[0]) && len(pivots) < len(m); column++ {
		at := len(pivots)
		i := slices.IndexFunc(m[at:], func(row []*big.Rat) bool { return row[column].Sign() != 0 })
		if i < 0 {
			continue
		}
		m[at], m[at+i] = m[at+i], m[at]
		by := new(big.Rat).Inv(m[at][column])
		for _, x := range m[at] {
			x.Mul(x, by)
		}
		for i := range m {
			k := new(big.Rat).Set(m[i][column])
			for j, x := range m[at] {
				if i != at {
					m[i][j].Sub(m[i][j], new(big.Rat).Mul(k, x))
				}
			}
		}
		pivots = append(pivots, column)
	}
	return m, pivots
}

// numberOf returns the number that the library has, or ErrLarge.
func numberOf(x *big.Rat) (api.Rat, api.Errno) {
	most := big.NewInt(api.MaxNum)
	if x.Num().CmpAbs(most) > 0 || x.Denom().Cmp(most) > 0 {
		return api.Rat{}, api.ErrLarge
	}
	return q(int(x.Num().Int64()), int(x.Denom().Int64())), api.OK
}

// listOf returns the numbers that the library has, or ErrLarge.
func listOf(l []*big.Rat) ([]api.Rat, api.Errno) {
	var made []api.Rat
	for _, x := range l {
		y, e := numberOf(x)
		if e != api.OK {
			return nil, e
		}
		made = append(made, y)
	}
	return made, api.OK
}

// numbers returns the matrix of c columns as a result has it, or ErrLarge.
func (p plain) numbers(c int) (api.Mat, api.Errno) {
	l, e := listOf(slices.Concat(p...))
	if e != api.OK {
		return api.Mat{}, e
	}
	return api.Mat{R: len(p), C: c, V: l}, api.OK
}

// random returns a matrix with numbers of few or of many digits, sometimes many of them 0, or with rows that depend on others.
func random(r *rand.Rand, rows, columns int) api.Mat {
	limit := []int64{1, 3, 20, 1000, 1000000, api.MaxNum}[r.Intn(6)]
	bottom := []int64{1, 1, 4, 60, limit}[r.Intn(5)]
	sparse := r.Intn(3) == 0
	p := newPlain(rows, columns)
	for i := range p {
		for j := range p[i] {
			if !sparse || r.Intn(3) == 0 {
				p[i][j] = big.NewRat(r.Int63n(2*limit+1)-limit, r.Int63n(bottom)+1)
			}
		}
	}
	if rows > 1 && r.Intn(2) == 0 {
		for range r.Intn(rows) {
			p[r.Intn(rows)] = plain{p[r.Intn(rows)]}.add(plain{p[r.Intn(rows)]}, big.NewRat(int64(r.Intn(5)-2), 1))[0]
		}
	}
	m, e := p.numbers(columns)
	if e != api.OK {
		return random(r, rows, columns)
	}
	return m
}

// similar returns a matrix that has the numbers of m in other coordinates.
func similar(r *rand.Rand, m api.Mat) api.Mat {
	for {
		p := toPlain(m)
		for range r.Intn(4) {
			i, j := r.Intn(m.R), r.Intn(m.R)
			if i == j {
				continue
			}
			// A row more, a column less: what is done to the rows is undone on the other side.
			k := big.NewRat(int64(r.Intn(5)-2), int64(r.Intn(2)+1))
			step, back := unit(m.R), unit(m.R)
			step[i][j], back[i][j] = k, new(big.Rat).Neg(k)
			p = step.mul(p).mul(back)
		}
		if made, e := p.numbers(m.C); e == api.OK {
			return made
		}
	}
}

func sameMat(t *testing.T, name string, got api.Mat, e api.Errno, want api.Mat, err api.Errno) {
	t.Helper()
	if got.R != want.R || got.C != want.C || !slices.Equal(got.V, want.V) || e != err {
		t.Errorf("%s: %v %v, not %v %v", name, got, e, want, err)
	}
}

func sameList(t *testing.T, name string, got []api.Rat, e api.Errno, want []api.Rat, err api.Errno) {
	t.Helper()
	if !slices.Equal(got, want) || e != err {
		t.Errorf("%s: %v %v, not %v %v", name, got, e, want, err)
	}
}

// outcome is all that a call returns.
type outcome struct {
	mats    []api.Mat
	lists   [][]api.Rat
	numbers []api.Rat
	ints    []int
	is      bool
	err     api.Errno
}

// arguments are what calls are made with.
type arguments struct {
	m, n api.Mat
	b    []api.Rat
	x    api.Rat
	k    int
}

// call is a function with its arguments in one form; takes has the names of the fields that it takes, in their order.
type call struct {
	name, takes string
	of          func(a arguments) outcome
}

func calls() []call {
	mat := func(m api.Mat, e api.Errno) outcome { return outcome{mats: []api.Mat{m}, err: e} }
	list := func(l []api.Rat, e api.Errno) outcome { return outcome{lists: [][]api.Rat{l}, err: e} }
	return []call{
		{"Validate", "m", func(a arguments) outcome { return outcome{err: Validate(a.m)} }},
		{"Add", "mn", func(a arguments) outcome { return mat(Add(a.m, a.n)) }},
		{"Mul", "mn", func(a arguments) outcome { return mat(Mul(a.m, a.n)) }},
		{"Scale", "mx", func(a arguments) outcome { return mat(Scale(a.m, a.x)) }},
		{"Turn", "m", func(a arguments) outcome { return mat(Turn(a.m)) }},
		{"Power", "mk", func(a arguments) outcome { return mat(Power(a.m, a.k)) }},
		{"Reduce", "m", func(a arguments) outcome {
			m, l, e := Reduce(a.m)
			return outcome{mats: []api.Mat{m}, ints: l, err: e}
		}},
		{"Rank", "m", func(a arguments) outcome {
			n, e := Rank(a.m)
			return outcome{ints: []int{n}, err: e}
		}},
		{"Det", "m", func(a arguments) outcome {
			x, e := Det(a.m)
			return outcome{numbers: []api.Rat{x}, err: e}
		}},
		{"Inverse", "m", func(a arguments) outcome { return mat(Inverse(a.m)) }},
		{"Solve", "mb", func(a arguments) outcome {
			x, l, e := Solve(a.m, a.b)
			return outcome{lists: append([][]api.Rat{x}, l...), err: e}
		}},
		{"Refute", "mb", func(a arguments) outcome {
			y, is, e := Refute(a.m, a.b)
			return outcome{lists: [][]api.Rat{y}, is: is, err: e}
		}},
		{"Char", "m", func(a arguments) outcome { return list(Char(a.m)) }},
		{"Minimal", "m", func(a arguments) outcome { return list(Minimal(a.m)) }},
		{"Definite", "m", func(a arguments) outcome {
			above, zero, below, e := Definite(a.m)
			return outcome{ints: []int{above, zero, below}, err: e}
		}},
	}
}

// hold reports whether an outcome is one that every call may have: with an error nothing besides it, else valid parts.
func (o outcome) hold() bool {
	if o.err != api.OK {
		zero := func(x api.Rat) bool { return x != api.Rat{} }
		for _, m := range o.mats {
			if m.R != 0 || m.C != 0 || len(m.V) != 0 {
				return false
			}
		}
		return len(slices.Concat(o.lists...)) == 0 && !slices.ContainsFunc(o.numbers, zero) && !slices.ContainsFunc(o.ints, func(n int) bool { return n != 0 }) && !o.is
	}
	for _, m := range o.mats {
		if Validate(m) != api.OK {
			return false
		}
	}
	for _, l := range append(o.lists, o.numbers) {
		for _, x := range l {
			if rat.Validate(x) != api.OK {
				return false
			}
		}
	}
	return true
}
