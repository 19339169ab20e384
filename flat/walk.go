package flat

import (
	"math"

	"isocline/api"
)

// The errors of Flatten by their order; each one is looked for in the whole walk before the next one.
const (
	ofWhole    = iota // of a whole class
	ofLoop            // a class is met within itself
	ofRule            // what may not be a component
	ofSize            // too much
	ofInner           // no component with OInner
	ofType            // another one than that with OOuter
	ofCircle          // a value depends on itself
	ofName            // what is named is no parameter
	ofFit             // no value
	ofNumber          // a value that is not representable
	errorCount        // how many there are
)

// place is where in the walk something is met.
type place struct {
	name  string // of the component, or of the class that is flattened
	order int    // the number in the order of the walk; the class that is flattened comes behind its components
}

// trouble is an error and the first place that has it.
type trouble struct {
	err api.Errno
	at  place
}

// posed is a question, and the place that it belongs to.
type posed struct {
	question
	at place
}

// walk goes through all components of a class.
type walk struct {
	*tree
	troubles [errorCount]trouble
	steps    int // how many places there were
	met      int // how many components
	ended    bool
	vars     []spot
	done     []*part // the parts in the order of their equations
	parts    []*part // the parts in the order of the walk, the class that is flattened at last
	posed    []posed
	counts   [3]int // of equations, links and whens
}

// fail keeps an error, unless an earlier place has it.
func (w *walk) fail(number int, err api.Errno, at place) {
	t := &w.troubles[number]
	if t.err == api.OK || at.order < t.at.order {
		*t = trouble{err, at}
	}
}

// first returns the first error, if there is one.
func (w *walk) first() trouble {
	for _, t := range w.troubles {
		if t.err != api.OK {
			return t
		}
	}
	return trouble{}
}

// place is the next one.
func (w *walk) place(name string) place {
	w.steps++
	return place{name, w.steps}
}

// start walks through the class that is flattened.
func (w *walk) start() {
	p := w.root()
	p.at = place{w.name, math.MaxInt}
	w.enter(p)
	w.parts = append(w.parts, p)
}

// enter goes through the components of a part, and then its equations.
func (w *walk) enter(p *part) {
	switch {
	case p.within:
		w.fail(ofLoop, api.ErrLoop, p.at)
		return
	case p.err != api.OK:
		w.fail(ofWhole, p.err, p.at)
		w.ended = true // no other error comes ahead of this one
		return
	case p.whole.Kind == api.KPartial:
		w.fail(ofRule, api.ErrRule, p.at)
	}
	for _, c := range p.comps {
		if c.Scope == api.OOuter {
			w.outer(p, c)
		} else {
			w.component(p, c)
		}
		if w.ended {
			return
		}
	}
	w.finish(p)
}

// outer asks what is wrong with a component that is not made.
func (w *walk) outer(p *part, c comp) {
	at := w.place(join(p.path, c.elements()[0]))
	if len(c.mods) > 0 || !isZero(c.Value) || !isZero(c.Cond) {
		w.fail(ofRule, api.ErrRule, at)
	}
	q := p.inner(c.Name)
	if q == nil {
		w.fail(ofInner, api.ErrNone, at)
		return
	}
	if in, _ := q.named(c.Name); in.Type != c.Type || in.Size != c.Size {
		w.fail(ofType, api.ErrType, at)
	}
}

// component meets all elements of a component, unless it is left out.
func (w *walk) component(p *part, c comp) {
	if !isZero(c.Cond) {
		q := p.condition(c)
		at := w.place(join(p.path, c.elements()[0]))
		w.pose(q, at)
		if w.ask(q).no() {
			return
		}
	}
	for _, element := range c.elements() {
		if w.ended {
			return
		}
		if at := w.place(join(p.path, element)); w.meet(at) {
			w.element(spot{c, p, at.name}, element, at)
		}
	}
}

// pose keeps a question for when the walk is over.
func (w *walk) pose(q question, at place) {
	w.posed = append(w.posed, posed{q, at})
	w.short(q.in, q.e, at)
}

// meet counts a component, and reports whether there may be so many.
func (w *walk) meet(at place) bool {
	w.ended = w.met == maxMet
	if w.ended {
		w.fail(ofSize, api.ErrLarge, at)
		return false
	}
	w.met++
	w.length(at.name, at)
	return true
}

// element goes into an element of a component with a class, or makes a variable of another one.
func (w *walk) element(s spot, element string, at place) {
	if s.Type != realType {
		q := w.child(s.in, s.comp, element)
		q.at = at
		w.parts = append(w.parts, q)
		w.enter(q)
		return
	}
	w.vars = append(w.vars, s)
	w.passes(len(w.vars)-1, len(w.vars), api.MaxVars, at)
	if q, is := s.question(); is {
		w.pose(q, at)
	}
}

// passes asks whether a number passes its limit from one value to another.
func (w *walk) passes(from, to, limit int, at place) {
	if from <= limit && to > limit {
		w.fail(ofSize, api.ErrLarge, at)
	}
}

// length asks whether a full name is too long.
func (w *walk) length(full string, at place) {
	if len(full) > api.MaxName {
		w.fail(ofSize, api.ErrLarge, at)
	}
}

// short asks whether a full name in an expression of a part is too long.
func (w *walk) short(p *part, e api.Expr, at place) {
	if e.Name != "" {
		w.length(p.full(e.Name), at)
	}
	for _, k := range e.Kids {
		w.short(p, k, at)
	}
}

// finish goes through the equations, links and whens of a part.
func (w *walk) finish(p *part) {
	w.done = append(w.done, p)
	links := w.kept(p)
	for i, n := range []int{len(p.whole.Eqs), len(links), len(p.whole.Whens)} {
		w.passes(w.counts[i], w.counts[i]+n, api.MaxFlatEqs, p.at)
		w.counts[i] += n
	}
	for _, k := range links {
		w.length(p.full(k.A), p.at)
		w.length(p.full(k.B), p.at)
	}
	for _, s := range sides(api.Flat{Eqs: p.whole.Eqs, Whens: p.whole.Whens}) {
		w.short(p, s.e, p.at)
	}
	for _, x := range p.whole.Whens {
		for _, s := range x.Sets {
			w.length(p.full(s.Name), p.at)
		}
	}
}

// kept returns the links of a part but those with an end in what is left out.
func (w *walk) kept(p *part) []api.Link {
	var l []api.Link
	for _, k := range p.whole.Links {
		if !w.follow(p, k.A).out && !w.follow(p, k.B).out {
			l = append(l, k)
		}
	}
	return l
}

// settle asks all questions, and keeps the errors of the values.
func (w *walk) settle() {
	for _, x := range w.posed {
		w.ask(x.question)
	}
	for _, x := range w.posed {
		a := w.answers[x.key]
		if a.stuck && w.troubles[ofCircle].err == api.OK && w.circular(x.key) {
			w.fail(ofCircle, api.ErrLoop, x.at)
		}
		switch a.err {
		case api.ErrNone:
			w.fail(ofName, a.err, x.at)
		case api.ErrFit:
			w.fail(ofFit, a.err, x.at)
		case api.ErrLarge:
			w.fail(ofNumber, a.err, x.at)
		}
	}
}
