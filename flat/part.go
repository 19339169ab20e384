package flat

import (
	"slices"
	"strconv"
	"strings"

	"isocline/api"
	"isocline/scope"
)

// realType is the type of components without a class.
const realType = "Real"

// part is a component with a class, or the class that is flattened: a whole class at its place, as modifiers make it.
type part struct {
	path   string    // the full name
	plain  string    // the full name without numbers, by which scope finds it
	whole  api.Class // without what modifiers make of it
	err    api.Errno // why there is no whole class
	within bool      // its class is met within itself, so it is not gone into
	around []level   // the classes around it, the outermost one first, and its own as the last one
	comps  []comp
	number map[string]int // the numbers of the components by their names
	at     place
}

// level is a class around a part, or its own, and the part that it is there.
type level struct {
	class string
	is    *part
}

// comp is a component of a part as modifiers make it, which stand where the names in them have to be looked up.
type comp struct {
	api.Comp
	value *part // where Value stands
	mods  []placed
}

// placed is a modifier and the part in whose class it stands.
type placed struct {
	api.Mod
	in *part
}

// fill makes the components of a part, as the modifiers over it make them.
func (p *part) fill(over []placed) {
	p.number = map[string]int{}
	for i, k := range p.whole.Comps {
		c := comp{Comp: k, value: p}
		for _, m := range k.Mods {
			c.mods = append(c.mods, placed{m, p})
		}
		c.change(over)
		p.number[k.Name] = i
		p.comps = append(p.comps, c)
	}
}

// change makes of a component what the modifiers of its name make of it.
func (c *comp) change(over []placed) {
	var inner []placed
	for _, m := range over {
		first, rest, deep := strings.Cut(m.Path, ".")
		switch {
		case first != c.Name:
		case deep:
			m.Path = rest
			inner = append(inner, m)
		case m.Type != "":
			c.Type = m.Type
		default:
			c.Value, c.value = m.Value, m.in
		}
	}
	c.mods = merge(inner, c.mods)
}

// merge puts outer modifiers over inner ones, each where it stands. That they are not too many was asked with the whole class.
func merge(outer, inner []placed) []placed {
	l, _ := scope.Merge(bare(outer), bare(inner))
	in := map[string]*part{}
	for _, m := range append(slices.Clone(inner), outer...) {
		in[m.Path] = m.in
	}
	r := make([]placed, len(l))
	for i, m := range l {
		r[i] = placed{m, in[m.Path]}
	}
	return r
}

func bare(l []placed) []api.Mod {
	r := make([]api.Mod, len(l))
	for i, m := range l {
		r[i] = m.Mod
	}
	return r
}

// isZero reports whether there is no expression.
func isZero(e api.Expr) bool {
	return e.Op == 0
}

// elements returns the names of the elements of a component, or its own if it is no array.
func (c comp) elements() []string {
	if c.Size == 0 {
		return []string{c.Name}
	}
	var l []string
	for i := range c.Size {
		l = append(l, c.Name+"["+strconv.Itoa(i+1)+"]")
	}
	return l
}

// head returns the first name of a path without its number.
func head(name string) string {
	if end := strings.IndexAny(name, ".["); end >= 0 {
		return name[:end]
	}
	return name
}

// named returns the component of a name, and whether there is one.
func (p *part) named(name string) (comp, bool) {
	i, is := p.number[name]
	if !is {
		return comp{}, false
	}
	return p.comps[i], true
}

// element returns the component of which a name is an element, and whether there is one.
func (p *part) element(name string) (comp, bool) {
	c, is := p.named(head(name))
	return c, is && slices.Contains(c.elements(), name)
}

// inner returns the nearest part around p that has a component of a name with OInner, nil if there is none.
func (p *part) inner(name string) *part {
	for _, l := range slices.Backward(p.around[:len(p.around)-1]) {
		if c, is := l.is.named(name); is && c.Scope == api.OInner {
			return l.is
		}
	}
	return nil
}

// home returns the part that has the component with which a path in the class of p begins: p itself, or one around it.
func (p *part) home(name string) *part {
	name = head(name)
	if c, is := p.named(name); is && c.Scope == api.OOuter {
		if q := p.inner(name); q != nil {
			return q
		}
	}
	return p
}

// full returns the full name of what a path in the class of p means.
func (p *part) full(name string) string {
	if name == timeName {
		return name
	}
	return join(p.home(name).path, name)
}

// join puts a prefix and `.` ahead of a name.
func join(prefix, name string) string {
	if prefix == "" {
		return name
	}
	return prefix + "." + name
}
