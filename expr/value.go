package expr

import (
	"isocline/api"
	"isocline/exact"
	"isocline/rat"
)

// maxBits is how many binary digits numerators and denominators may have in between.
const maxBits = 4096

// Value returns the value of a numeric expression.
func Value(e api.Expr, env []api.Bind) (api.Rat, api.Errno) {
	v, err := newValues(e, env)
	if err != api.OK {
		return api.Rat{}, err
	}
	if isCondition(e) {
		return api.Rat{}, api.ErrType
	}
	x, err := v.value(e)
	if err != api.OK {
		return api.Rat{}, err
	}
	return x.Rat()
}

// Truth returns the value of a condition.
func Truth(e api.Expr, env []api.Bind) (bool, api.Errno) {
	v, err := newValues(e, env)
	if err != api.OK {
		return false, err
	}
	if !isCondition(e) {
		return false, api.ErrType
	}
	return v.truth(e)
}

// newValues returns what evaluates e in an environment, or the first error of both.
func newValues(e api.Expr, env []api.Bind) (*evaluation[exact.Ratio], api.Errno) {
	if err := Validate(e); err != api.OK {
		return nil, err
	}
	known, err := binds(env)
	if err != api.OK {
		return nil, err
	}
	v := newEvaluation(exact.Of, func(name string) (exact.Ratio, bool) {
		b, ok := known[name]
		return exact.Of(b.V), ok
	})
	v.holds = v.truth
	return v, api.OK
}

// binds returns an environment by its names, or its first error.
func binds(env []api.Bind) (map[string]api.Bind, api.Errno) {
	name := func(b api.Bind) string { return b.Name }
	valid := func(b api.Bind) api.Errno { return rat.Validate(b.V) }
	return table(env, name, valid)
}

// number is what a numeric expression may be evaluated in.
type number[T any] interface {
	Add(T) T
	Sub(T) T
	Mul(T) T
	Quo(T) T
	Neg() T
	Power(int) T
	Sign() int
	Cmp(T) int
	Bits() int
}

// evaluation evaluates expressions from the left.
type evaluation[T number[T]] struct {
	fixed func(api.Rat) T                     // a number
	known func(string) (T, bool)              // what a name has, and whether it has anything
	holds func(api.Expr) (bool, api.Errno)    // the value of the condition of EIf
	pairs map[int]func(x, y T) (T, api.Errno) // what comes of both kids, by Op
}

func newEvaluation[T number[T]](fixed func(api.Rat) T, known func(string) (T, bool)) *evaluation[T] {
	always := func(of func(x, y T) T) func(x, y T) (T, api.Errno) {
		return func(x, y T) (T, api.Errno) { return of(x, y), api.OK }
	}
	return &evaluation[T]{fixed: fixed, known: known, pairs: map[int]func(x, y T) (T, api.Errno){
		api.EAdd: always(T.Add),
		api.ESub: always(T.Sub),
		api.EMul: always(T.Mul),
		api.EDiv: quotient[T],
		api.EMin: always(lesser[T]),
		api.EMax: always(greater[T]),
	}}
}

func quotient[T number[T]](x, y T) (T, api.Errno) {
	if y.Sign() == 0 {
		return x, api.ErrFit
	}
	return x.Quo(y), api.OK
}

// lesser returns the first one of equals.
func lesser[T number[T]](x, y T) T {
	if y.Cmp(x) < 0 {
		return y
	}
	return x
}

// greater returns the first one of equals.
func greater[T number[T]](x, y T) T {
	if y.Cmp(x) > 0 {
		return y
	}
	return x
}

// value returns the value of a numeric expression, or the first trouble that is met; with an error it has no meaning.
func (v *evaluation[T]) value(e api.Expr) (T, api.Errno) {
	x, err := v.node(e)
	if err == api.OK && x.Bits() > maxBits {
		err = api.ErrLarge
	}
	return x, err
}

// node returns the value of a node, however long it is.
func (v *evaluation[T]) node(e api.Expr) (T, api.Errno) {
	switch e.Op {
	case api.EConst:
		return v.fixed(e.N), api.OK
	case api.EName, api.EDer, api.EPre:
		x, ok := v.known(asked(e))
		if !ok {
			return x, api.ErrNone
		}
		return x, api.OK
	case api.EIf:
		return v.choice(e)
	}
	x, err := v.value(e.Kids[0])
	if err != api.OK {
		return x, err
	}
	if len(e.Kids) == 1 {
		return single(e, x)
	}
	y, err := v.value(e.Kids[1])
	if err != api.OK {
		return y, err
	}
	return v.pairs[e.Op](x, y)
}

// single returns the value of a node whose only kid has the value x.
func single[T number[T]](e api.Expr, x T) (T, api.Errno) {
	switch {
	case e.Op == api.ENeg, e.Op == api.EAbs && x.Sign() < 0:
		return x.Neg(), api.OK
	case e.Op == api.EAbs:
		return x, api.OK
	case e.N.N < 0 && x.Sign() == 0:
		return x, api.ErrFit
	}
	return x.Power(e.N.N), api.OK
}

func (v *evaluation[T]) choice(e api.Expr) (T, api.Errno) {
	yes, err := v.holds(e.Kids[0])
	if err != api.OK {
		var none T
		return none, err
	}
	if yes {
		return v.value(e.Kids[1])
	}
	return v.value(e.Kids[2])
}

// truth returns the value of a condition, or the first trouble that is met, and then false.
func (v *evaluation[T]) truth(e api.Expr) (bool, api.Errno) {
	switch e.Op {
	case api.ENot:
		yes, err := v.truth(e.Kids[0])
		return !yes && err == api.OK, err
	case api.EAnd, api.EOr:
		yes, err := v.truth(e.Kids[0])
		if err != api.OK || yes == (e.Op == api.EOr) {
			return yes, err
		}
		return v.truth(e.Kids[1])
	}
	x, err := v.value(e.Kids[0])
	if err != api.OK {
		return false, err
	}
	y, err := v.value(e.Kids[1])
	if err != api.OK {
		return false, err
	}
	order := x.Cmp(y)
	return order < 0 || order == 0 && e.Op == api.ELeq, api.OK
}
