package flat

import (
	"fmt"
	"slices"
	"strings"
	"testing"

	"isocline/api"
	"isocline/expr"
	"isocline/model"
	"isocline/scope"
)

// The functions of this file say again what P10.2 to P10.5 say, slowly and in another way: modifiers are searched for from the outside, and conditions and values are settled in rounds until nothing changes.

// slow is a class that is flattened; places in it are lists of elements.
type slow struct {
	l       []api.Class
	name    string
	wholes  map[string]api.Class
	settled map[string]slowValue // by questions
	items   []slowItem
	faults  []slowFault
	steps   int
	met     int
	over    bool
	counts  [3]int
	parts   [][]string // in the order of the walk
	done    [][]string // in the order of equations
}

// slowValue is what a question has: an error, `void` if it depends on another one without a value.
type slowValue struct {
	v    api.Rat
	yes  bool
	err  api.Errno
	void bool
}

// slowItem is a variable or a condition that was met.
type slowItem struct {
	key   string
	path  []string
	where string
	order int
	k     api.Comp
}

// slowFault is an error: which one it is of the list, and where.
type slowFault struct {
	rank, order int
	err         api.Errno
	where       string
}

func bareName(element string) string { return strings.Split(element, "[")[0] }

func dots(path []string) string { return strings.Join(path, ".") }

// tail is the Path that a modifier has for what is at path, if it stands at its element i.
func tail(path []string, i int) string {
	var l []string
	for _, s := range path[i+1:] {
		l = append(l, bareName(s))
	}
	return dots(l)
}

func (s *slow) whole(class string) api.Class {
	c, is := s.wholes[class]
	if !is {
		c, _ = scope.Whole(s.l, class)
		s.wholes[class] = c
	}
	return c
}

// own is the component of a path as its class has it.
func (s *slow) own(path []string) (api.Comp, bool) {
	last := path[len(path)-1]
	for _, k := range s.whole(s.class(path[:len(path)-1])).Comps {
		if k.Name == bareName(last) {
			return k, true
		}
	}
	return api.Comp{}, false
}

// outer is the outermost modifier that is as asked, of those at the components of a path.
func (s *slow) outer(path []string, is func(i int, m api.Mod) bool) (api.Mod, int) {
	for i := range path {
		k, _ := s.own(path[:i+1])
		for _, m := range k.Mods {
			if is(i, m) {
				return m, i
			}
		}
	}
	return api.Mod{}, -1
}

// class is the class of the component of a path, by the outermost modifier that puts one in.
func (s *slow) class(path []string) string {
	if len(path) == 0 {
		return s.name
	}
	k, _ := s.own(path)
	n := len(path) - 1
	if m, at := s.outer(path[:n], func(i int, m api.Mod) bool { return m.Type != "" && m.Path == tail(path, i) }); at >= 0 {
		return m.Type
	}
	return k.Type
}

// value is the Value of the component of a path, and the class around in which it stands.
func (s *slow) value(path []string) (api.Expr, []string) {
	k, _ := s.own(path)
	n := len(path) - 1
	if m, at := s.outer(path[:n], func(i int, m api.Mod) bool { return m.Type == "" && m.Path == tail(path, i) }); at >= 0 {
		return m.Value, path[:at]
	}
	return k.Value, path[:n]
}

// over are all modifiers that reach into the component of a path, the outermost one of each Path.
func (s *slow) mods(path []string) []api.Mod {
	var l []api.Mod
	for i := range path {
		k, _ := s.own(path[:i+1])
		for _, m := range k.Mods {
			into := tail(path, i)
			if into != "" {
				into += "."
			}
			rest, is := strings.CutPrefix(m.Path, into)
			if is && !slices.ContainsFunc(l, func(x api.Mod) bool { return x.Path == rest }) {
				m.Path = rest
				l = append(l, m)
			}
		}
	}
	return l
}

// wholeError is the error of the class of a component with all modifiers over it: that of a class of its own that extends it.
func (s *slow) wholeError(path []string) api.Errno {
	probe := api.Class{Name: "zzz", Bases: []api.Base{{Name: s.class(path), Mods: s.mods(path)}}}
	l := append(slices.Clone(s.l), probe)
	_, err := scope.Whole(l, "zzz")
	return err
}

// inner is the path of the class that has what a component with OOuter means.
func (s *slow) inner(path []string, name string) ([]string, bool) {
	for n := len(path) - 1; n >= 0; n-- {
		if k, is := s.own(append(slices.Clone(path[:n]), name)); is && k.Scope == api.OInner {
			return path[:n], true
		}
	}
	return nil, false
}

// home is the class of whose component a name in the class of a path begins.
func (s *slow) home(path []string, name string) []string {
	head := strings.FieldsFunc(name, func(r rune) bool { return r == '.' || r == '[' })
	if len(head) == 0 {
		return path
	}
	if k, is := s.own(append(slices.Clone(path), head[0])); is && k.Scope == api.OOuter {
		if q, is := s.inner(path, head[0]); is {
			return q
		}
	}
	return path
}

func (s *slow) full(path []string, name string) string {
	if name == "time" {
		return name
	}
	return dots(append(slices.Clone(s.home(path, name)), name))
}

func slowElements(k api.Comp) []string {
	if k.Size == 0 {
		return []string{k.Name}
	}
	var l []string
	for i := 1; i <= k.Size; i++ {
		l = append(l, fmt.Sprintf("%s[%d]", k.Name, i))
	}
	return l
}

// led is where a name leads: the questions it depends on, and what it means: 0 nothing, 1 a component, 2 something left out, 3 not known yet.
func (s *slow) led(path []string, name string, last bool) (needs []string, end []string, means int) {
	at := s.home(path, name)
	for i, element := range strings.Split(name, ".") {
		if i > 0 && s.class(at) == "Real" || i > 0 && s.within(at) {
			return needs, nil, 0
		}
		if i > 0 && s.wholeError(at) != api.OK {
			return needs, nil, 0
		}
		next := append(slices.Clone(at), element)
		k, is := s.own(next)
		if !is || k.Scope == api.OOuter || !slices.Contains(slowElements(k), element) {
			return needs, nil, 0
		}
		if k.Cond.Op != 0 {
			key := dots(append(slices.Clone(at), k.Name)) + "?"
			needs = append(needs, key)
			v, known := s.settled[key]
			if !known && !last {
				return needs, nil, 3
			}
			if known && v.err == api.OK && !v.void && !v.yes {
				return needs, nil, 2
			}
		}
		at = next
	}
	return needs, at, 1
}

// within reports whether the class of a path is one of those around it.
func (s *slow) within(path []string) bool {
	for n := range path {
		if s.class(path[:n]) == s.class(path) {
			return true
		}
	}
	return false
}

// question is the expression of a question, where it stands, and whether there is such a question.
func (s *slow) question(path []string, cond bool) (api.Expr, []string, bool) {
	k, _ := s.own(path)
	if cond {
		return k.Cond, path[:len(path)-1], true
	}
	if s.class(path) != "Real" {
		return api.Expr{}, nil, false
	}
	e, at := s.value(path)
	return e, at, k.Var == api.VParam || e.Op != 0
}

// needs are the questions on which an expression depends, whether all names are parameters, and whether that is known.
func (s *slow) needs(e api.Expr, at []string, last bool) (l []string, env map[string]string, all, known bool) {
	all, known, env = true, true, map[string]string{}
	names, _ := expr.Names(e)
	for _, name := range names {
		needs, end, means := s.led(at, name, last)
		l = append(l, needs...)
		if means == 3 {
			known = false
			continue
		}
		if means != 1 {
			all = false
			continue
		}
		if _, _, is := s.question(end, false); is {
			l = append(l, dots(end))
			env[name] = dots(end)
		}
		if k, _ := s.own(end); s.class(end) != "Real" || k.Var != api.VParam {
			all = false
		}
	}
	return l, env, all, known
}

// settle gives a question its value if all on which it depends have theirs, and reports whether it did.
func (s *slow) settle(key string, path []string) bool {
	if _, is := s.settled[key]; is {
		return false
	}
	cond := strings.HasSuffix(key, "?")
	e, at, _ := s.question(path, cond)
	needs, names, all, known := s.needs(e, at, false)
	var v slowValue
	var env []api.Bind
	for _, n := range needs {
		x, is := s.settled[n]
		known = known && is
		v.void = v.void || x.void || x.err != api.OK
	}
	for name, of := range names {
		env = append(env, api.Bind{Name: name, V: s.settled[of].v})
	}
	switch {
	case !known:
		return false
	case !all:
		v.err = api.ErrNone
	case v.void:
	case e.Op == 0:
		v.err = api.ErrFit
	case cond:
		v.yes, v.err = expr.Truth(e, env)
	default:
		v.v, v.err = expr.Value(e, env)
	}
	s.settled[key] = v
	return true
}

func (s *slow) fault(rank, order int, err api.Errno, where string) {
	s.faults = append(s.faults, slowFault{rank, order, err, where})
}

// long asks whether names of an expression are too long.
func (s *slow) long(path []string, e api.Expr, order int, where string) {
	if e.Name != "" && len(s.full(path, e.Name)) > 60 {
		s.fault(4, order, api.ErrLarge, where)
	}
	for _, k := range e.Kids {
		s.long(path, k, order, where)
	}
}

// walk goes through the class of a path, which is in the walk by what is known of conditions.
func (s *slow) walk(path []string, order int) {
	where := dots(path)
	if where == "" {
		where = s.name
	}
	if s.within(path) {
		s.fault(2, order, api.ErrLoop, where)
		return
	}
	if err := s.wholeError(path); err != api.OK {
		s.fault(1, order, err, where)
		return
	}
	c := s.whole(s.class(path))
	if c.Kind == api.KPartial {
		s.fault(3, order, api.ErrRule, where)
	}
	for _, k := range c.Comps {
		s.component(path, k)
		if s.over {
			return
		}
	}
	s.done = append(s.done, path)
	s.count(path, c, order, where)
}

// count asks for numbers and names of equations, links and whens.
func (s *slow) count(path []string, c api.Class, order int, where string) {
	n := [3]int{len(c.Eqs), len(s.links(path)), len(c.Whens)}
	for i := range n {
		if s.counts[i] <= 96 && s.counts[i]+n[i] > 96 {
			s.fault(4, order, api.ErrLarge, where)
		}
		s.counts[i] += n[i]
	}
	name := func(x string) { s.long(path, api.Expr{Name: x}, order, where) }
	for _, q := range c.Eqs {
		s.long(path, q.L, order, where)
		s.long(path, q.R, order, where)
	}
	for _, k := range s.links(path) {
		name(k.A)
		name(k.B)
	}
	for _, w := range c.Whens {
		s.long(path, w.C, order, where)
		for _, x := range w.Sets {
			name(x.Name)
			s.long(path, x.E, order, where)
		}
	}
}

// links are those of a class that stay.
func (s *slow) links(path []string) []api.Link {
	var l []api.Link
	for _, k := range s.whole(s.class(path)).Links {
		_, _, a := s.led(path, k.A, true)
		_, _, b := s.led(path, k.B, true)
		if a != 2 && b != 2 {
			l = append(l, k)
		}
	}
	return l
}

func (s *slow) component(path []string, k api.Comp) {
	at := func(element string) []string { return append(slices.Clone(path), element) }
	first := at(slowElements(k)[0])
	s.steps++
	order := s.steps
	if k.Scope == api.OOuter {
		value, _ := s.value(first)
		if len(s.mods(first)) > 0 || value.Op != 0 || k.Cond.Op != 0 {
			s.fault(3, order, api.ErrRule, dots(first))
		}
		q, is := s.inner(path, k.Name)
		if !is {
			s.fault(5, order, api.ErrNone, dots(first))
			return
		}
		in := append(slices.Clone(q), k.Name)
		if i, _ := s.own(in); s.class(in) != s.class(first) || i.Size != k.Size {
			s.fault(6, order, api.ErrType, dots(first))
		}
		return
	}
	if k.Cond.Op != 0 {
		key := dots(at(k.Name)) + "?"
		s.items = append(s.items, slowItem{key, first, dots(first), order, k})
		s.long(path, k.Cond, order, dots(first))
		if v, is := s.settled[key]; is && v.err == api.OK && !v.void && !v.yes {
			return
		}
	}
	for _, element := range slowElements(k) {
		if s.element(at(element), k); s.over {
			return
		}
	}
}

func (s *slow) element(path []string, k api.Comp) {
	s.steps++
	order, where := s.steps, dots(path)
	s.items = append(s.items, slowItem{where, path, where, order, k})
	if s.met == 1000 {
		s.over = true
		s.fault(4, order, api.ErrLarge, where)
		return
	}
	s.met++
	if len(where) > 60 {
		s.fault(4, order, api.ErrLarge, where)
	}
	if s.class(path) != "Real" {
		s.parts = append(s.parts, path)
		s.walk(path, order)
		return
	}
	e, at := s.value(path)
	s.long(at, e, order, where)
	vars := 0
	for _, x := range s.items {
		if x.key == dots(x.path) && s.class(x.path) == "Real" {
			vars++
		}
	}
	if vars == 65 {
		s.fault(4, order, api.ErrLarge, where)
	}
}

// again walks once more, by what is known now.
func (s *slow) again() {
	s.items, s.faults, s.steps, s.met, s.over, s.counts, s.parts, s.done = nil, nil, 0, 0, false, [3]int{}, nil, nil
	s.walk(nil, 1<<30)
}

// reaches reports whether a question depends on itself.
func (s *slow) reaches(key string, of map[string][]string) bool {
	met := map[string]bool{}
	l := slices.Clone(of[key])
	for len(l) > 0 {
		if l[0] == key {
			return true
		}
		if !met[l[0]] {
			met[l[0]] = true
			l = append(l, of[l[0]]...)
		}
		l = l[1:]
	}
	return false
}

// judge adds the errors of values.
func (s *slow) judge() {
	of := map[string][]string{}
	for _, x := range s.items {
		if e, at, is := s.question(x.path, strings.HasSuffix(x.key, "?")); is {
			of[x.key], _, _, _ = s.needs(e, at, true)
		}
	}
	for _, x := range s.items {
		if s.reaches(x.key, of) {
			s.fault(7, x.order, api.ErrLoop, x.where)
		}
		e, at, is := s.question(x.path, strings.HasSuffix(x.key, "?"))
		if _, _, all, _ := s.needs(e, at, true); is && !all {
			s.fault(8, x.order, api.ErrNone, x.where)
		}
		switch s.settled[x.key].err {
		case api.ErrFit:
			s.fault(9, x.order, api.ErrFit, x.where)
		case api.ErrLarge:
			s.fault(10, x.order, api.ErrLarge, x.where)
		}
	}
}

// first is the first error.
func (s *slow) first() slowFault {
	var best slowFault
	for _, f := range s.faults {
		if best.err == api.OK || f.rank < best.rank || f.rank == best.rank && f.order < best.order {
			best = f
		}
	}
	return best
}

// slowFlatten is Flatten and Trouble.
func slowFlatten(l []api.Class, name string) (api.Flat, string, api.Errno) {
	s := &slow{l: l, name: name, wholes: map[string]api.Class{}, settled: map[string]slowValue{}}
	for changed := true; changed; {
		s.again()
		changed = false
		for _, x := range s.items {
			if _, _, is := s.question(x.path, strings.HasSuffix(x.key, "?")); is {
				changed = s.settle(x.key, x.path) || changed
			}
		}
	}
	if f := s.first(); f.err != api.OK {
		return api.Flat{}, f.where, f.err
	}
	s.judge()
	if f := s.first(); f.err != api.OK {
		return api.Flat{}, f.where, f.err
	}
	f, where := s.made()
	if where != "" {
		return api.Flat{}, where, Validate(f)
	}
	return f, "", api.OK
}

// made is the flat model, and where it is not valid.
func (s *slow) made() (api.Flat, string) {
	var f api.Flat
	for _, x := range s.items {
		if strings.HasSuffix(x.key, "?") || s.class(x.path) != "Real" {
			continue
		}
		v := api.Var{Name: x.key, Var: x.k.Var, Flow: x.k.Flow, Unit: x.k.Unit, Value: api.Rat{N: 0, D: 1}}
		if _, _, is := s.question(x.path, false); is {
			v.Value, v.Fixed = s.settled[x.key].v, true
		}
		f.Vars = append(f.Vars, v)
	}
	bad := map[string]bool{}
	for _, path := range s.done {
		g := s.equations(path)
		f.Eqs = append(f.Eqs, g.Eqs...)
		f.Links = append(f.Links, g.Links...)
		f.Whens = append(f.Whens, g.Whens...)
		g.Vars = f.Vars
		bad[dots(path)] = Validate(api.Flat{Vars: f.Vars, Eqs: g.Eqs, Links: g.Links, Whens: g.Whens}) != api.OK
	}
	// All variables stand in the list before the equations of the classes that are asked.
	for _, path := range append(slices.Clone(s.parts), nil) {
		if bad[dots(path)] {
			if len(path) == 0 {
				return f, s.name
			}
			return f, dots(path)
		}
	}
	return f, ""
}

// equations are those of a path, with links and whens, in full names.
func (s *slow) equations(path []string) api.Flat {
	var f api.Flat
	full := func(name string) string { return s.full(path, name) }
	c := s.whole(s.class(path))
	for _, q := range c.Eqs {
		f.Eqs = append(f.Eqs, api.Eq{Init: q.Init, L: spelt(q.L, full), R: spelt(q.R, full)})
	}
	for _, k := range s.links(path) {
		in := path
		for _, end := range []string{k.A, k.B} {
			if q := s.home(path, end); len(q) < len(in) {
				in = q
			}
		}
		f.Links = append(f.Links, api.Link{A: full(k.A), B: full(k.B), In: dots(in)})
	}
	for _, w := range c.Whens {
		x := api.When{C: spelt(w.C, full)}
		for _, e := range w.Sets {
			x.Sets = append(x.Sets, api.Set{Name: full(e.Name), E: spelt(e.E, full)})
		}
		f.Whens = append(f.Whens, x)
	}
	return f
}

// spelt is an expression with other names, by its text.
func spelt(e api.Expr, to func(string) string) api.Expr {
	var b strings.Builder
	word := ""
	flush := func() {
		switch word {
		case "", "if", "then", "else", "or", "and", "not", "der", "pre", "abs", "min", "max":
			b.WriteString(word)
		default:
			b.WriteString(to(word))
		}
		word = ""
	}
	for _, r := range tx(e) {
		letter := r >= 'a' && r <= 'z' || r >= 'A' && r <= 'Z'
		if letter || word != "" && (r >= '0' && r <= '9' || strings.ContainsRune("_.[]", r)) {
			word += string(r)
			continue
		}
		flush()
		b.WriteRune(r)
	}
	flush()
	return ex(b.String())
}

// expression is a random one of names.
func (m maker) expression(names []string, depth int) string {
	if depth == 0 || m.chance(3) {
		return m.one("1", "2", "3", "1/2", m.one(names...), m.one(names...))
	}
	a, b := m.expression(names, depth-1), m.expression(names, depth-1)
	switch m.r.Intn(12) {
	case 0:
		return "(" + a + " / " + b + ")"
	case 1:
		return "(if " + a + " < " + b + " then " + a + " else 5)"
	case 2:
		return "max(" + a + ", " + b + ")"
	case 3:
		return "(" + a + " - " + b + ")"
	case 4, 5:
		return "(" + a + " * " + b + ")"
	}
	return "(" + a + " + " + b + ")"
}

// scene is a random class that is being made.
type scene struct {
	maker
	at     int
	lines  []string
	params []string // names of parameters that are mostly there
	names  []string // names of variables that are mostly there
	ends   []string
}

func (m *scene) add(parts ...string) { m.lines = append(m.lines, strings.Join(parts, "")) }

// rarely is a if chance has it, else b.
func (m maker) rarely(n int, a, b string) string {
	if m.chance(n) {
		return a
	}
	return b
}

// later is mostly a class behind this one.
func (m *scene) later() string {
	from := m.at + 1
	if m.at > 5 || m.chance(150) {
		from = 1
	}
	return m.one([]string{"a", "b", "c", "d", "e", "f", "g"}[from:]...)
}

// own adds components that are no parts.
func (m *scene) own() {
	m.add("parameter Real s = ", m.one("1", "2", "3", "2", m.rarely(8, m.expression(m.params, 1), "5")))
	m.add("parameter Real q = ", m.one("s", "1", m.expression([]string{"s", "2"}, 2)))
	m.add("parameter Real p", m.rarely(80, "", " = "+m.one("q", m.expression([]string{"q", "s"}, 1))), m.cond(10))
	m.add("parameter Real k[2] = ", m.expression([]string{"s", "q", "1"}, 1))
	m.add("Real x", m.one("", " = "+m.expression(m.params, 1)))
	m.add(m.one("", "flow ", "discrete "), "Real y", m.cond(4))
}

// parts adds components with classes.
func (m *scene) parts() {
	for i, name := range []string{"u", "v", "w"}[:m.r.Intn(3)] {
		if m.at > 4 {
			break
		}
		size := []string{"", "[2]", ""}[i]
		m.add(m.one("", "replaceable "), m.later(), " ", name, size, m.over(m.later), m.cond(4))
		if i == 1 {
			name = m.one("v[1]", "v[2]", m.rarely(10, "v", "v[2]"))
		}
		m.params = append(m.params, name+".s", name+".q")
		m.names = append(m.names, name+".x", name+".p", m.rarely(5, name+".y", "y"))
		m.ends = append(m.ends, name+".x", name, name+".u")
	}
	switch {
	case m.at == 0 || m.chance(8):
		m.add("inner g o", m.cond(8))
	case m.at < 6 && m.chance(3):
		m.add("outer ", m.rarely(30, "f", "g"), " o", m.rarely(30, "[1]", ""), m.rarely(30, "(s = 1)", ""))
	default:
		return
	}
	m.params = append(m.params, "o.s")
	m.names = append(m.names, "o.x")
	m.ends = append(m.ends, "o.x", "o")
}

// equations adds what is behind the components.
func (m *scene) equations() {
	for range m.r.Intn(3) {
		m.add(m.one("equation ", "equation ", "initial "), m.one("x", "der(x)", "pre(y)", m.one(m.names...)), " = ", m.expression(m.names, 2))
	}
	for range m.r.Intn(3) {
		m.add("connect ", m.one(m.ends...), " ", m.one(m.ends...))
	}
	if m.chance(3) {
		m.add("when x < ", m.expression(m.names, 1))
		m.add("set ", m.one("x", "s", m.one(m.names...)), " = ", m.expression(m.names, 1))
		m.add("end when")
	}
}

// class is a random class, whose components are mostly of classes behind it.
func (m maker) class(at int) string {
	c := &scene{m, at, nil, []string{"s", "q", "k[1]", "2"}, []string{"x", "p", "time", "x"}, []string{"x", "x", "p"}}
	c.add(m.rarely(60, "partial ", m.rarely(60, "port ", "model ")), []string{"a", "b", "c", "d", "e", "f", "g"}[at])
	based := at > 0 && at < 6 && m.chance(4)
	if based {
		c.add("extends ", c.later(), c.over(c.later))
	} else {
		var first scene = *c
		first.lines = nil
		first.parts()
		c.params, c.names, c.ends = first.params, first.names, first.ends
		c.own()
		c.lines = append(c.lines, first.lines...)
	}
	c.equations()
	return strings.Join(append(c.lines, "end "+strings.Fields(c.lines[0])[1]), "\n")
}

// over are random modifiers.
func (m maker) over(later func() string) string {
	var l []string
	for _, i := range m.r.Perm(7)[:m.r.Intn(3)] {
		n := " = " + m.expression([]string{"s", "q", "s", "2", "3"}, 1)
		switch i {
		case 0, 1, 2:
			l = append(l, m.rarely(20, "p", []string{"x", "q", "s"}[i])+n)
		case 3:
			l = append(l, m.rarely(20, "u is "+later(), "s"+n))
		case 4:
			l = append(l, m.rarely(6, m.one("u.p", "v.q", "u.u.p", "w.x", "o.p", "u.s", "v.v.s"), "q")+n)
		case 5:
			l = append(l, m.rarely(9, "y", "k")+n)
		}
	}
	slices.Sort(l)
	l = slices.CompactFunc(l, func(a, b string) bool { return strings.Fields(a)[0] == strings.Fields(b)[0] })
	if len(l) == 0 {
		return ""
	}
	return "(" + strings.Join(l, ", ") + ")"
}

// cond is a random condition, or none.
func (m *scene) cond(n int) string {
	if !m.chance(n) {
		return ""
	}
	return " when " + m.one("s", "q", "1", m.rarely(6, m.one(m.params...), "s")) + m.one(" < ", " <= ", " < ") + m.one("2", "3", "s", "1", "4")
}

// library is a random valid one.
func (m maker) library() []api.Class {
	for {
		var l []string
		for at := range 7 {
			l = append(l, m.class(at))
		}
		if l, _, err := model.Parse(strings.Join(l, "\n")); err == api.OK {
			return l
		}
	}
}

// TestFlattenRandom holds Flatten and Trouble against what the chapter says again.
func TestFlattenRandom(t *testing.T) {
	m := newMaker(10)
	met := map[api.Errno]int{}
	for i := range 500 {
		l := m.library()
		name := m.one("a", "a", "a", "b", "c", "d")
		want, where, err := slowFlatten(l, name)
		got, gotErr := Flatten(l, name)
		gotWhere, _ := Trouble(l, name)
		met[err]++
		if gotErr != err || gotWhere != where || !same(got, want) {
			text, _ := model.Print(l)
			t.Fatalf("Flatten %d of %s in\n%s: %d at %s, not %d at %s\n%s, not\n%s", i, name, text, gotErr, gotWhere, err, where, show(got), show(want))
		}
	}
	t.Log(met)
}
