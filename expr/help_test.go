package expr

import (
	"math/big"
	"math/rand"
	"reflect"
	"testing"

	"isocline/api"
	"isocline/rat"
)

func q(n, d int) api.Rat { return api.Rat{N: n, D: d} }

// parse is the expression of a text that has to be one.
func parse(t *testing.T, s string) api.Expr {
	t.Helper()
	e, at, err := Parse(s)
	if err != api.OK || at != 0 {
		t.Fatalf("Parse of %q: %v at %d", s, err, at)
	}
	return e
}

func name(s string) api.Expr { return api.Expr{Op: api.EName, Name: s} }

func pow(e api.Expr, n int) api.Expr {
	return api.Expr{Op: api.EPow, N: q(n, 1), Kids: []api.Expr{e}}
}

// same reports whether two expressions are equal; no kids are nil or empty.
func same(e, f api.Expr) bool {
	if e.Op != f.Op || e.Name != f.Name || e.N != f.N || len(e.Kids) != len(f.Kids) {
		return false
	}
	for i := range e.Kids {
		if !same(e.Kids[i], f.Kids[i]) {
			return false
		}
	}
	return true
}

// apart reports whether no two nodes of the expressions share memory for their kids.
func apart(l ...api.Expr) bool {
	met := map[*api.Expr]bool{}
	var walk func(e api.Expr) bool
	walk = func(e api.Expr) bool {
		if len(e.Kids) == 0 {
			return true
		}
		if met[&e.Kids[0]] {
			return false
		}
		met[&e.Kids[0]] = true
		for _, k := range e.Kids {
			if !walk(k) {
				return false
			}
		}
		return true
	}
	for _, e := range l {
		if !walk(e) {
			return false
		}
	}
	return true
}

// maker makes random expressions of some names and Ops.
type maker struct {
	r       *rand.Rand
	names   []string
	ops     []int
	numbers func(r *rand.Rand) api.Rat
}

var allOps = []int{
	api.EConst, api.EName, api.EDer, api.EPre, api.ENeg, api.EAbs, api.EAdd, api.ESub, api.EMul, api.EDiv,
	api.EMin, api.EMax, api.EPow, api.EIf,
}

var normalOps = []int{
	api.EConst, api.EName, api.EName, api.EDer, api.EPre, api.ENeg, api.EAdd, api.EAdd, api.ESub, api.EMul, api.EMul, api.EDiv, api.EPow,
}

func newMaker(seed int64, ops []int) maker {
	return maker{rand.New(rand.NewSource(seed)), []string{"x", "y", "a.b[2]", "x_1"}, ops, smallNumber}
}

func smallNumber(r *rand.Rand) api.Rat {
	x, _ := rat.Make(r.Intn(15)-7, r.Intn(4)/2+1)
	return x
}

// wideNumber is now and then at the ends of what is allowed.
func wideNumber(r *rand.Rand) api.Rat {
	n, d := r.Intn(15)-7, r.Intn(3)+1
	switch r.Intn(5) {
	case 0:
		n, d = r.Intn(2*api.MaxNum+1)-api.MaxNum, 1
	case 1:
		n, d = r.Intn(2*api.MaxNum+1)-api.MaxNum, api.MaxNum-r.Intn(50)
	}
	x, _ := rat.Make(n, d)
	return x
}

// numeric is a random numeric expression, nested at most most deep.
func (m maker) numeric(most int) api.Expr {
	op := m.ops[m.r.Intn(len(m.ops))]
	if most == 1 {
		op = m.ops[m.r.Intn(len(m.ops))]
		if kidCount[op] > 0 {
			op = api.EName
		}
	}
	e := api.Expr{Op: op}
	switch op {
	case api.EConst:
		e.N = m.numbers(m.r)
	case api.EName, api.EDer, api.EPre:
		e.Name = m.names[m.r.Intn(len(m.names))]
	case api.EPow:
		e.N = q(m.r.Intn(4), 1)
		if m.r.Intn(4) == 0 {
			e.N = q(m.r.Intn(13)-6, 1)
		}
	case api.EIf:
		if most < 3 {
			return m.numeric(most)
		}
		return api.Expr{Op: op, Kids: []api.Expr{m.condition(most - 1), m.numeric(most - 1), m.numeric(most - 1)}}
	}
	for range kidCount[op] {
		e.Kids = append(e.Kids, m.numeric(most-1))
	}
	return e
}

// condition is a random condition, nested at most most deep, which is above 1.
func (m maker) condition(most int) api.Expr {
	if most < 3 || m.r.Intn(2) == 0 {
		op := []int{api.ELess, api.ELeq}[m.r.Intn(2)]
		return api.Expr{Op: op, Kids: []api.Expr{m.numeric(most - 1), m.numeric(most - 1)}}
	}
	op := []int{api.ENot, api.EAnd, api.EOr}[m.r.Intn(3)]
	e := api.Expr{Op: op}
	for range kidCount[op] {
		e.Kids = append(e.Kids, m.condition(most-1))
	}
	return e
}

// any is a random valid expression: mostly a numeric one.
func (m maker) any(most int) api.Expr {
	for {
		e := m.numeric(1 + m.r.Intn(most))
		if m.r.Intn(3) == 0 && most > 1 {
			e = m.condition(2 + m.r.Intn(most-1))
		}
		if small(e) {
			return e
		}
	}
}

func toBig(x api.Rat) *big.Rat { return big.NewRat(int64(x.N), int64(x.D)) }

// fromBig is the number, ErrLarge if it is not representable.
func fromBig(x *big.Rat) (api.Rat, api.Errno) {
	most := big.NewInt(api.MaxNum)
	if new(big.Int).Abs(x.Num()).Cmp(most) > 0 || x.Denom().Cmp(most) > 0 {
		return api.Rat{}, api.ErrLarge
	}
	return q(int(x.Num().Int64()), int(x.Denom().Int64())), api.OK
}

// isLong reports whether a part of x has 2^4096 or more.
func isLong(x *big.Rat) bool {
	return x.Num().BitLen() > 4096 || x.Denom().BitLen() > 4096
}

// bigPower is x to the power n; x is not 0 if n is below 0.
func bigPower(x *big.Rat, n int) *big.Rat {
	if n < 0 {
		return bigPower(new(big.Rat).Inv(x), -n)
	}
	p := big.NewRat(1, 1)
	for range n {
		p.Mul(p, x)
	}
	return p
}

// answer is what a call returns, with what it has to return.
type answer[T any] struct {
	name string
	x    T
	e    api.Errno
	want T
	err  api.Errno
}

func check[T any](t *testing.T, l ...answer[T]) {
	t.Helper()
	for _, a := range l {
		if !reflect.DeepEqual(a.x, a.want) || a.e != a.err {
			t.Errorf("%s: %v %v, not %v %v", a.name, a.x, a.e, a.want, a.err)
		}
	}
}
