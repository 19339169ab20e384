package flat

import (
	"slices"
	"strings"

	"isocline/api"
	"isocline/scope"
)

// maxMet is the most components that are met.
const maxMet = 1000

// tree has the parts of a class that is flattened; they are made when they are asked for the first time, as a condition may name what is met later.
type tree struct {
	lib     []api.Class
	name    string
	wholes  map[string]whole     // by names of classes
	checked map[string]api.Errno // the errors of whole classes with modifiers over them, by their signatures
	parts   map[string]*part     // by full names
	passed  map[string]bool      // the full names that names lead through
	answers map[string]*answer   // by the keys of questions
}

// whole is what scope.Whole returns.
type whole struct {
	class api.Class
	err   api.Errno
}

func newTree(lib []api.Class, name string) *tree {
	return &tree{lib, name, map[string]whole{}, map[string]api.Errno{}, map[string]*part{}, map[string]bool{}, map[string]*answer{}}
}

// whole returns the whole class of a name.
func (t *tree) whole(name string) whole {
	w, is := t.wholes[name]
	if !is {
		w.class, w.err = scope.Whole(t.lib, name)
		t.wholes[name] = w
	}
	return w
}

// root returns the class that is flattened.
func (t *tree) root() *part {
	w := t.whole(t.name)
	p := &part{whole: w.class, err: w.err}
	p.around = []level{{t.name, p}}
	p.fill(nil)
	return p
}

// child returns the part that an element of a component with a class is.
func (t *tree) child(up *part, c comp, element string) *part {
	path := join(up.path, element)
	if p := t.parts[path]; p != nil {
		return p
	}
	p := &part{path: path, plain: join(up.plain, c.Name)}
	t.parts[path] = p
	p.around = append(slices.Clone(up.around), level{c.Type, p})
	if p.within = slices.ContainsFunc(up.around, func(l level) bool { return l.class == c.Type }); p.within {
		return p
	}
	if p.err = t.check(p.plain, c); p.err == api.OK {
		p.whole = t.whole(c.Type).class
		p.fill(c.mods)
	}
	return p
}

// signature is all of a component by which the errors differ that its whole class has with modifiers over it.
func (c comp) signature() string {
	s := c.Type
	for _, m := range c.mods {
		s += "," + m.Path + "=" + m.Type
	}
	return s
}

// check returns the error of the whole class of a component with its modifiers over it.
func (t *tree) check(plain string, c comp) api.Errno {
	w := t.whole(c.Type)
	if len(c.mods) == 0 {
		return w.err
	}
	if w.err == api.OK && len(w.class.Comps) == 0 {
		return api.ErrNone // there is nothing that a modifier could reach
	}
	err, is := t.checked[c.signature()]
	if !is {
		// Modifiers are asked ahead of whether there is a component at the end of the path. If the class has no error without them, one that is there is asked for; else there is an error anyway.
		within := "x"
		if w.err == api.OK {
			within = w.class.Comps[0].Name
		}
		_, err = scope.Member(t.lib, t.name, plain+"."+within)
		t.checked[c.signature()] = err
	}
	return err
}

// spot is what a name means: an element of a component of a part.
type spot struct {
	comp
	in   *part
	path string
}

// way is how a name leads to what it means.
type way struct {
	end   spot
	conds []question // the conditions of the components that it leads through
	is    bool       // it means something
	out   bool       // it leads through a component that is left out, and so means nothing
}

// follow goes along the way of a name that stands in the class of a part.
func (t *tree) follow(p *part, name string) way {
	var w way
	p = p.home(name)
	for element := range strings.SplitSeq(name, ".") {
		if p == nil {
			return way{conds: w.conds}
		}
		c, is := p.element(element)
		if !is || c.Scope == api.OOuter {
			return way{conds: w.conds}
		}
		if !isZero(c.Cond) {
			q := p.condition(c)
			w.conds = append(w.conds, q)
			if t.ask(q).no() {
				return way{conds: w.conds, out: true}
			}
		}
		w.end = spot{c, p, join(p.path, element)}
		if !t.pass(w.end.path) {
			return way{conds: w.conds}
		}
		p = nil
		if c.Type != realType {
			p = t.child(w.end.in, c, element)
		}
	}
	w.is = true
	return w
}

// pass keeps that a name leads through a component, and reports whether these are not too many: if they are, the walk meets too many, and what the name means makes no difference. So what is asked ends, however many components there are.
func (t *tree) pass(path string) bool {
	if len(t.passed) < maxMet {
		t.passed[path] = true
	}
	return t.passed[path]
}
