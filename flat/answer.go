package flat

import (
	"isocline/api"
	"isocline/expr"
)

// question is the Value of a variable, or the Cond of a component.
type question struct {
	key   string
	e     api.Expr // the zero expression for a parameter without a Value
	in    *part    // where its names stand
	truth bool     // it is a condition
}

// answer is what a question has.
type answer struct {
	value api.Rat
	truth bool
	err   api.Errno // ErrNone, ErrFit or ErrLarge of its own
	void  bool      // there is no value
	busy  bool      // it is still looked for
	stuck bool      // it depends on what depends on itself
	needs []string  // the keys of the questions on which it depends directly
}

// no reports whether a condition is false; one without a value is not.
func (a *answer) no() bool {
	return !a.void && !a.truth
}

// condition is the question of a Cond, one for all elements of an array.
func (p *part) condition(c comp) question {
	return question{join(p.path, c.Name) + " when", c.Cond, p, true}
}

// question is that of the Value of a `Real` component, and whether there is one.
func (s spot) question() (question, bool) {
	return question{s.path, s.Value, s.value, false}, s.Type == realType && (s.Var == api.VParam || !isZero(s.Value))
}

// ask returns the answer of a question, which is looked for when it is asked for the first time. It is busy if it is asked on the way to itself.
func (t *tree) ask(q question) *answer {
	a := t.answers[q.key]
	if a != nil {
		return a
	}
	a = &answer{void: true, busy: true}
	t.answers[q.key] = a
	env, all := t.environment(q, a)
	a.busy = false
	switch {
	case a.err != api.OK || !all:
		return a
	case isZero(q.e):
		a.err = api.ErrFit
	case q.truth:
		a.truth, a.err = expr.Truth(q.e, env)
	default:
		a.value, a.err = expr.Value(q.e, env)
	}
	a.void = a.err != api.OK
	return a
}

// environment returns the values of the parameters that a question names, and whether there are values of all on which it depends. It keeps in the answer which these are, and ErrNone if one of the names is no parameter's.
func (t *tree) environment(q question, a *answer) ([]api.Bind, bool) {
	var env []api.Bind
	all := true
	need := func(on question) api.Rat {
		b := t.ask(on)
		a.needs = append(a.needs, on.key)
		a.stuck = a.stuck || b.stuck || b.busy
		all = all && !b.void
		return b.value
	}
	names, _ := expr.Names(q.e) // the zero expression has none
	for _, name := range names {
		w := t.follow(q.in, name)
		for _, on := range w.conds {
			need(on)
		}
		if on, is := w.end.question(); w.is && is {
			env = append(env, api.Bind{Name: name, V: need(on)})
		}
		if !w.is || w.end.Type != realType || w.end.Var != api.VParam {
			a.err = api.ErrNone
		}
	}
	return env, all
}

// circular reports whether the answer of a key depends on itself.
func (t *tree) circular(key string) bool {
	met := map[string]bool{}
	var reach func(from string) bool
	reach = func(from string) bool {
		for _, on := range t.answers[from].needs {
			if on == key {
				return true
			}
			if met[on] || !t.answers[on].stuck {
				continue
			}
			met[on] = true
			if reach(on) {
				return true
			}
		}
		return false
	}
	return t.answers[key].stuck && reach(key)
}
