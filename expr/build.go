package expr

import (
	"slices"
	"strings"

	"isocline/api"
	"isocline/rat"
)

// Of returns an expression whose normal form is given: ErrLarge for its terms or the expression, ErrArg for what Terms does not return.
func Of(names []string, l []api.Term) (api.Expr, api.Errno) {
	if len(l) > api.MaxTerms {
		return api.Expr{}, api.ErrLarge
	}
	if !isNormal(names, l) {
		return api.Expr{}, api.ErrArg
	}
	return made(names, l)
}

// made returns Of of what Terms may return.
func made(names []string, l []api.Term) (api.Expr, api.Errno) {
	b := builder{}
	for _, name := range names {
		e, _ := asks(name)
		b = append(b, e)
	}
	e := b.sum(l).plain()
	for _, cut := range []func([]int) int{middle, lowest} {
		if !small(e) && len(l) > 0 {
			e = b.nested(l, cut).plain()
		}
	}
	if !small(e) {
		return api.Expr{}, api.ErrLarge
	}
	return copied(e), api.OK
}

// isNormal reports whether names and terms are as Terms returns them.
func isNormal(names []string, l []api.Term) bool {
	for i, name := range names {
		if _, ok := asks(name); !ok || i > 0 && names[i-1] >= name {
			return false
		}
	}
	stand := make([]bool, len(names))
	for i, t := range l {
		if !isNumber(t.C) || len(t.X) != len(names) || !isLow(t.X) {
			return false
		}
		if i > 0 && slices.Compare(l[i-1].X, t.X) <= 0 {
			return false
		}
		for k, n := range t.X {
			stand[k] = stand[k] || n > 0
		}
	}
	return !slices.Contains(stand, false)
}

// isLow reports whether these are exponents whose sum is within the limit.
func isLow(x []int) bool {
	left := api.MaxDeg
	for _, n := range x {
		if n < 0 || n > left {
			return false
		}
		left -= n
	}
	return true
}

// isNumber reports whether x is a number that is not 0.
func isNumber(x api.Rat) bool {
	return rat.Validate(x) == api.OK && x.N != 0
}

// asks returns the node that asks for a text of an environment, and whether there is one.
func asks(s string) (api.Expr, bool) {
	for _, op := range []int{api.EDer, api.EPre} {
		name, ok := strings.CutPrefix(s, words[op]+"(")
		name, closed := strings.CutSuffix(name, ")")
		if ok && closed && isName(name) {
			return api.Expr{Op: op, Name: name}, true
		}
	}
	return api.Expr{Op: api.EName, Name: s}, isName(s)
}

// builder has the nodes of names, from which it makes expressions of terms.
type builder []api.Expr

// signed is e, or what is opposite to it: so a sum can take away what it otherwise would have to turn round.
type signed struct {
	e     api.Expr
	minus bool
}

func fixed(x api.Rat) api.Expr {
	return api.Expr{Op: api.EConst, N: x}
}

func node(op int, kids ...api.Expr) api.Expr {
	return api.Expr{Op: op, Kids: kids}
}

// sum returns the sum of the terms, each one written out.
func (b builder) sum(l []api.Term) signed {
	switch len(l) {
	case 0:
		return signed{whole(0), false}
	case 1:
		return b.term(l[0])
	}
	half := len(l) / 2
	return b.sum(l[:half]).plus(b.sum(l[half:]))
}

// term returns the product that a term is.
func (b builder) term(t api.Term) signed {
	minus := t.C.N < 0
	if minus {
		t.C.N = -t.C.N
	}
	var factors []api.Expr
	for i, n := range t.X {
		factors = append(factors, powers(b[i], n)...)
	}
	if len(factors) == 0 || !is(fixed(t.C), 1) {
		factors = slices.Insert(factors, 0, fixed(t.C))
	}
	return signed{balanced(factors), minus}
}

// powers returns factors that are e to the power n, n from 0 to MaxDeg.
func powers(e api.Expr, n int) []api.Expr {
	switch {
	case n == 0:
		return nil
	case n <= maxPower:
		return []api.Expr{raised(e, n)}
	}
	for k := 2; k <= maxPower; k++ {
		if n%k == 0 && n/k <= maxPower {
			return powers(powers(e, n/k)[0], k)
		}
	}
	return append(powers(e, maxPower), powers(e, n-maxPower)...)
}

// balanced returns the product of some factors, not deeper than it has to be.
func balanced(factors []api.Expr) api.Expr {
	if len(factors) == 1 {
		return factors[0]
	}
	half := (len(factors) + 1) / 2
	return node(api.EMul, balanced(factors[:half]), balanced(factors[half:]))
}

func (s signed) plus(t signed) signed {
	switch {
	case s.minus == t.minus:
		return signed{node(api.EAdd, s.e, t.e), s.minus}
	case s.minus:
		return signed{node(api.ESub, t.e, s.e), false}
	}
	return signed{node(api.ESub, s.e, t.e), false}
}

func (s signed) times(factors []api.Expr) signed {
	if is(s.e, 1) {
		return signed{balanced(factors), s.minus}
	}
	return signed{balanced(slices.Insert(factors, 0, s.e)), s.minus}
}

// plain returns the expression itself.
func (s signed) plain() api.Expr {
	if s.minus {
		return opposite(s.e)
	}
	return s.e
}

// opposite returns -e, with a node more only where e has no number that can be turned round.
func opposite(e api.Expr) api.Expr {
	switch e.Op {
	case api.EConst:
		e.N.N = -e.N.N
		return e
	case api.EAdd:
		return node(api.ESub, opposite(e.Kids[0]), e.Kids[1])
	case api.EMul:
		return node(api.EMul, opposite(e.Kids[0]), e.Kids[1])
	}
	return node(api.ENeg, e)
}

// nested returns the sum of the terms with a power of the most frequent name taken out of those that have it, and so on within both sums.
// Where that saves no nodes, the terms are written out.
func (b builder) nested(l []api.Term, cut func(ascending []int) int) signed {
	plain := b.sum(l)
	i, exponents := frequent(l)
	if len(exponents) < 2 {
		return plain
	}
	n := cut(exponents)
	with, without := divided(l, i, n)
	s := b.nested(with, cut).times(powers(b[i], n))
	if len(without) > 0 {
		s = s.plus(b.nested(without, cut))
	}
	if nodes(s.e) < nodes(plain.e) {
		return s
	}
	return plain
}

// lowest takes out what all terms with the name have in common.
func lowest(ascending []int) int {
	return ascending[0]
}

// middle takes out what half of the terms with the name have in common: sums of powers do not get as deep so.
func middle(ascending []int) int {
	return ascending[len(ascending)/2]
}

// frequent returns the number of the name that stands in the most terms, and its exponents there, ascending.
func frequent(l []api.Term) (name int, exponents []int) {
	for i := range l[0].X {
		var has []int
		for _, t := range l {
			if t.X[i] > 0 {
				has = append(has, t.X[i])
			}
		}
		if len(has) > len(exponents) {
			name, exponents = i, has
		}
	}
	slices.Sort(exponents)
	return name, exponents
}

// divided returns the terms with an exponent of the name i of at least n, with that taken away, and the others.
func divided(l []api.Term, i, n int) (with, without []api.Term) {
	for _, t := range l {
		if t.X[i] < n {
			without = append(without, t)
			continue
		}
		x := slices.Clone(t.X)
		x[i] -= n
		with = append(with, api.Term{C: t.C, X: x})
	}
	return with, without
}

// nodes returns how many nodes e has.
func nodes(e api.Expr) int {
	n := 1
	for _, k := range e.Kids {
		n += nodes(k)
	}
	return n
}
