package scope

import (
	"strings"

	"isocline/api"
	"isocline/model"
)

// outline is what a class has with all that it extends. With an error, which is one of its bases, of twice the same name or of a name that means nothing, the rest says nothing.
type outline struct {
	err      api.Errno
	steps    []step
	declared []api.Comp     // the components as the classes have them that declare them
	comps    []api.Comp     // the same components as modifiers make them
	number   map[string]int // the numbers of the components by their names
	sites    []site
}

// site is a list of modifiers that stands at a class, in an extends or at a component.
type site struct {
	mods []api.Mod
	on   *outline
}

// Whole returns the class with all that it extends put in: the errors of Bases, ErrTwice, ErrNone, ErrType, ErrRule and ErrLarge, as P9.5 has them.
func Whole(lib []api.Class, name string) (api.Class, api.Errno) {
	l, at, err := open(lib, name)
	if err != api.OK {
		return api.Class{}, err
	}
	return l.whole(at[0], nil)
}

// whole returns the whole class with modifiers over it, in memory of its own.
func (l *library) whole(class int, over []api.Mod) (api.Class, api.Errno) {
	o := l.outline(class)
	if o.err != api.OK {
		return api.Class{}, o.err
	}
	if err := l.siteError(append([]site{{over, o}}, o.sites...)); err != api.OK {
		return api.Class{}, err
	}
	c := api.Class{Name: l.classes[class].Name, Kind: l.classes[class].Kind}
	for _, s := range o.steps {
		from := l.classes[s.class]
		c.Comps = append(c.Comps, changed(l.comps(s.class), merge(over, s.mods))...)
		c.Eqs = append(c.Eqs, from.Eqs...)
		c.Links = append(c.Links, from.Links...)
		c.Whens = append(c.Whens, from.Whens...)
	}
	// Only its sizes can be wrong with what is made of valid classes in this way.
	own, err := model.Put(nil, c)
	if err != api.OK {
		return api.Class{}, err
	}
	return own[0], api.OK
}

// comps returns the components of a class with the full names of the classes that they name.
func (l *library) comps(class int) []api.Comp {
	comps := make([]api.Comp, len(l.classes[class].Comps))
	copy(comps, l.classes[class].Comps)
	for i := range comps {
		k := &comps[i]
		k.Type = l.full(class, k.Type)
		k.Mods = l.resolved(class, k.Mods)
	}
	return comps
}

// resolved returns modifiers that stand in a class with the full names of the classes that they put in.
func (l *library) resolved(class int, mods []api.Mod) []api.Mod {
	own := make([]api.Mod, len(mods))
	copy(own, mods)
	for i := range own {
		own[i].Type = l.full(class, own[i].Type)
	}
	return own
}

// changed returns components as modifiers make them.
func changed(comps []api.Comp, mods []api.Mod) []api.Comp {
	r := make([]api.Comp, len(comps))
	copy(r, comps)
	for i := range r {
		change(&r[i], mods)
	}
	return r
}

// change makes of a component what the modifiers of its name make of it.
func change(k *api.Comp, mods []api.Mod) {
	var inner []api.Mod
	for _, m := range mods {
		first, rest, deep := strings.Cut(m.Path, ".")
		switch {
		case first != k.Name:
		case deep:
			m.Path = rest
			inner = append(inner, m)
		case m.Type != "":
			k.Type = m.Type
		case k.Type == realType:
			k.Value = m.Value
		}
	}
	k.Mods = merge(inner, k.Mods)
}

// outline returns the outline of a class, which is made when it is asked for the first time.
func (l *library) outline(class int) *outline {
	o := l.outlines[class]
	if o == nil {
		o = &outline{number: map[string]int{}}
		o.err = l.sketch(o, class)
		l.outlines[class] = o
	}
	return o
}

// sketch makes the outline of a class and returns the first error of it.
func (l *library) sketch(o *outline, class int) api.Errno {
	var err api.Errno
	if o.steps, err = l.walk(class); err != api.OK {
		return err
	}
	for _, s := range o.steps {
		comps := l.comps(s.class)
		o.declared = append(o.declared, comps...)
		o.comps = append(o.comps, changed(comps, s.mods)...)
	}
	for i, k := range o.declared {
		o.number[k.Name] = i
	}
	if len(o.number) < len(o.declared) {
		return api.ErrTwice
	}
	if !l.allMeant(class) {
		return api.ErrNone
	}
	for _, s := range o.steps {
		for _, b := range l.classes[s.class].Bases {
			base, _ := l.meant(s.class, b.Name)
			o.sites = append(o.sites, site{l.resolved(s.class, b.Mods), l.outline(base)})
		}
	}
	return nameError(o.sites)
}

// allMeant reports whether every name of a class that a class uses means one.
func (l *library) allMeant(class int) bool {
	uses, err := model.Uses(l.classes[class])
	for _, name := range uses {
		if _, is := l.meant(class, name); !is {
			return false
		}
	}
	return err == api.OK
}
