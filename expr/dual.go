package expr

import (
	"isocline/api"
	"isocline/exact"
)

// Dual returns the value of a numeric expression and its derivative in the direction dir.
func Dual(e api.Expr, env, dir []api.Bind) (api.Rat, api.Rat, api.Errno) {
	plain, err := newValues(e, env)
	if err != api.OK {
		return api.Rat{}, api.Rat{}, err
	}
	ways, err := binds(dir)
	if err != api.OK {
		return api.Rat{}, api.Rat{}, err
	}
	if isCondition(e) {
		return api.Rat{}, api.Rat{}, api.ErrType
	}
	v := newEvaluation(still, func(name string) (dual, bool) {
		x, ok := plain.known(name)
		way, moves := ways[name]
		if !moves {
			return dual{x, exact.Whole(0)}, ok
		}
		return dual{x, exact.Of(way.V)}, ok
	})
	v.holds = plain.truth // of conditions no derivative is asked
	x, err := v.value(e)
	if err != api.OK {
		return api.Rat{}, api.Rat{}, err
	}
	return x.rats()
}

// dual is a value with its derivative.
type dual struct {
	v, d exact.Ratio
}

// still returns a number that does not change.
func still(x api.Rat) dual {
	return dual{exact.Of(x), exact.Whole(0)}
}

// rats returns the value and the derivative as numbers.
func (x dual) rats() (api.Rat, api.Rat, api.Errno) {
	v, err := x.v.Rat()
	if err != api.OK {
		return api.Rat{}, api.Rat{}, err
	}
	d, err := x.d.Rat()
	if err != api.OK {
		return api.Rat{}, api.Rat{}, err
	}
	return v, d, api.OK
}

func (x dual) Add(y dual) dual { return dual{x.v.Add(y.v), x.d.Add(y.d)} }

func (x dual) Sub(y dual) dual { return dual{x.v.Sub(y.v), x.d.Sub(y.d)} }

func (x dual) Mul(y dual) dual {
	return dual{x.v.Mul(y.v), x.d.Mul(y.v).Add(x.v.Mul(y.d))}
}

func (x dual) Quo(y dual) dual {
	q := x.v.Quo(y.v)
	return dual{q, x.d.Sub(q.Mul(y.d)).Quo(y.v)}
}

func (x dual) Neg() dual { return dual{x.v.Neg(), x.d.Neg()} }

func (x dual) Power(n int) dual {
	if n == 0 {
		return still(api.Rat{N: 1, D: 1})
	}
	return dual{x.v.Power(n), exact.Whole(n).Mul(x.v.Power(n - 1)).Mul(x.d)}
}

func (x dual) Sign() int { return x.v.Sign() }

func (x dual) Cmp(y dual) int { return x.v.Cmp(y.v) }

func (x dual) Bits() int { return max(x.v.Bits(), x.d.Bits()) }
