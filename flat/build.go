package flat

import (
	"slices"

	"isocline/api"
)

// flat returns the flat model that a walk without errors has found.
func (w *walk) flat() api.Flat {
	var f api.Flat
	for _, s := range w.vars {
		f.Vars = append(f.Vars, w.variable(s))
	}
	for _, p := range w.done {
		own := w.own(p)
		f.Eqs = append(f.Eqs, own.Eqs...)
		f.Links = append(f.Links, own.Links...)
		f.Whens = append(f.Whens, own.Whens...)
	}
	return f
}

// variable returns the variable that an element of a component is.
func (w *walk) variable(s spot) api.Var {
	v := api.Var{Name: s.path, Var: s.Var, Flow: s.Flow, Value: api.Rat{N: 0, D: 1}, Unit: s.Unit}
	if q, is := s.question(); is {
		v.Value, v.Fixed = w.ask(q).value, true
	}
	return v
}

// own returns the equations, links and whens of the class of a part, with full names.
func (w *walk) own(p *part) api.Flat {
	f := renamed(api.Flat{Eqs: p.whole.Eqs, Whens: p.whole.Whens}, p.full)
	for _, k := range w.kept(p) {
		in := p.home(k.A)
		if q := p.home(k.B); len(q.around) < len(in.around) {
			in = q
		}
		f.Links = append(f.Links, api.Link{A: p.full(k.A), B: p.full(k.B), In: in.path})
	}
	return f
}

// blamed returns the first place whose equations, links and whens are not valid; that those of all places together are not must be known.
func (w *walk) blamed(vars []api.Var) place {
	i := slices.IndexFunc(w.parts, func(p *part) bool {
		f := w.own(p)
		f.Vars = vars
		return Validate(f) != api.OK
	})
	return w.parts[i].at
}

// renamed returns a flat model in memory of its own, with what each name in equations and whens becomes.
func renamed(f api.Flat, to func(string) string) api.Flat {
	r := api.Flat{Vars: slices.Clone(f.Vars), Links: slices.Clone(f.Links)}
	for _, q := range f.Eqs {
		r.Eqs = append(r.Eqs, api.Eq{Init: q.Init, L: renamedIn(q.L, to), R: renamedIn(q.R, to)})
	}
	for _, w := range f.Whens {
		own := api.When{C: renamedIn(w.C, to)}
		for _, s := range w.Sets {
			own.Sets = append(own.Sets, api.Set{Name: to(s.Name), E: renamedIn(s.E, to)})
		}
		r.Whens = append(r.Whens, own)
	}
	return r
}

// itself is what a name becomes that stays.
func itself(name string) string {
	return name
}

func renamedIn(e api.Expr, to func(string) string) api.Expr {
	if e.Name != "" {
		e.Name = to(e.Name)
	}
	var kids []api.Expr
	for _, k := range e.Kids {
		kids = append(kids, renamedIn(k, to))
	}
	e.Kids = kids
	return e
}
