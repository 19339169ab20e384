package flat

import (
	"fmt"
	"math/rand"
	"reflect"
	"slices"
	"strings"
	"testing"

	"isocline/api"
	"isocline/expr"
	"isocline/model"
	"isocline/rat"
)

// lib is the library of a text, whose lines may be parted by semicolons, and whose classes end with `.`.
func lib(text string) []api.Class {
	var lines []string
	name := ""
	for line := range strings.SplitSeq(strings.ReplaceAll(text, ";", "\n"), "\n") {
		words := strings.Fields(line)
		if len(words) == 2 && name == "" {
			name = words[1]
		}
		if len(words) == 1 && words[0] == "." {
			line, name = "end "+name, ""
		}
		lines = append(lines, line)
	}
	l, at, err := model.Parse(strings.Join(lines, "\n"))
	if err != api.OK {
		panic(fmt.Sprint("error ", err, " in line ", at, " of\n", text))
	}
	return l
}

// ex is the expression of a text.
func ex(s string) api.Expr {
	e, _, err := expr.Parse(s)
	if err != api.OK {
		panic(s)
	}
	return e
}

// tx is the text of an expression.
func tx(e api.Expr) string {
	s, err := expr.Print(e)
	if err != api.OK {
		panic(err)
	}
	return s
}

// num is the number of a text.
func num(s string) api.Rat {
	x, err := rat.Parse(s)
	if err != api.OK {
		panic(s)
	}
	return x
}

// env is an environment of a text such as `x 1, y 2/3`.
func env(s string) []api.Bind {
	var l []api.Bind
	for item := range strings.SplitSeq(s, ",") {
		if name, v, is := strings.Cut(strings.TrimSpace(item), " "); is {
			l = append(l, api.Bind{Name: name, V: num(v)})
		}
	}
	return l
}

// flatOf is a flat model: variables such as `parameter flow x = 1 in V`, equations such as `x = y` or `initial x = y`, links such as `connect x y` with ` @ ` and In behind, whens with their sets, such as `when x < 1 set y = 2`, all parted by semicolons.
func flatOf(s string) api.Flat {
	var f api.Flat
	for line := range strings.SplitSeq(s, ";") {
		line = strings.TrimSpace(line)
		word, rest, _ := strings.Cut(line, " ")
		switch word {
		case "":
		case "connect":
			ends, in, _ := strings.Cut(rest, " @ ")
			a, b, _ := strings.Cut(ends, " ")
			f.Links = append(f.Links, api.Link{A: a, B: b, In: in})
		case "when":
			parts := strings.Split(rest, " set ")
			w := api.When{C: ex(parts[0])}
			for _, x := range parts[1:] {
				name, e, _ := strings.Cut(x, " = ")
				w.Sets = append(w.Sets, api.Set{Name: name, E: ex(e)})
			}
			f.Whens = append(f.Whens, w)
		case "equation", "initial":
			l, r, _ := strings.Cut(rest, " = ")
			f.Eqs = append(f.Eqs, api.Eq{Init: word == "initial", L: ex(l), R: ex(r)})
		default:
			f.Vars = append(f.Vars, variable(line))
		}
	}
	return f
}

// variable is that of a text.
func variable(s string) api.Var {
	v := api.Var{Value: num("0")}
	s, v.Unit, _ = strings.Cut(s, " in ")
	if rest, is := strings.CutPrefix(s, "parameter "); is {
		s, v.Var = rest, api.VParam
	}
	if rest, is := strings.CutPrefix(s, "discrete "); is {
		s, v.Var = rest, api.VDisc
	}
	s, v.Flow = strings.CutPrefix(s, "flow ")
	if name, value, is := strings.Cut(s, " = "); is {
		s, v.Value, v.Fixed = name, num(value), true
	}
	v.Name = s
	return v
}

// show is the text of a flat model, as flatOf takes it.
func show(f api.Flat) string {
	var l []string
	for _, v := range f.Vars {
		s := []string{"", "parameter ", "discrete "}[v.Var]
		if v.Flow {
			s += "flow "
		}
		s += v.Name
		if v.Fixed || v.Value != num("0") {
			x, _ := rat.Print(v.Value)
			s += map[bool]string{true: " = ", false: " ? "}[v.Fixed] + x
		}
		if v.Unit != "" {
			s += " in " + v.Unit
		}
		l = append(l, s)
	}
	for _, q := range f.Eqs {
		l = append(l, map[bool]string{true: "initial ", false: "equation "}[q.Init]+tx(q.L)+" = "+tx(q.R))
	}
	for _, k := range f.Links {
		s := "connect " + k.A + " " + k.B
		if k.In != "" {
			s += " @ " + k.In
		}
		l = append(l, s)
	}
	for _, w := range f.Whens {
		s := "when " + tx(w.C)
		for _, x := range w.Sets {
			s += " set " + x.Name + " = " + tx(x.E)
		}
		l = append(l, s)
	}
	return strings.Join(l, "; ")
}

// times are n items with a text, in which `@` is the number of the item.
func times(n int, s string) string {
	var l []string
	for i := range n {
		l = append(l, strings.ReplaceAll(s, "@", fmt.Sprint(i)))
	}
	return strings.Join(l, "")
}

// maker makes random things.
type maker struct {
	r *rand.Rand
}

func newMaker(seed int64) maker { return maker{rand.New(rand.NewSource(seed))} }

func (m maker) one(l ...string) string { return l[m.r.Intn(len(l))] }

func (m maker) chance(n int) bool { return m.r.Intn(n) == 0 }

// memory has the addresses of all items of slices within a value, the same one as often as it is met.
func memory(x any) []uintptr {
	var l []uintptr
	var walk func(v reflect.Value)
	walk = func(v reflect.Value) {
		switch v.Kind() {
		case reflect.Struct:
			for i := range v.NumField() {
				walk(v.Field(i))
			}
		case reflect.Slice:
			for i := range v.Len() {
				l = append(l, v.Index(i).Addr().Pointer())
				walk(v.Index(i))
			}
		}
	}
	walk(reflect.ValueOf(x))
	slices.Sort(l)
	return l
}

// apart reports whether no two slices within a value share memory.
func apart(x any) bool {
	l := memory(x)
	return len(slices.Compact(slices.Clone(l))) == len(l)
}

// share reports whether a slice within x and one within y share memory.
func share(x, y any) bool {
	in := memory(y)
	return slices.ContainsFunc(memory(x), func(p uintptr) bool {
		_, found := slices.BinarySearch(in, p)
		return found
	})
}

// plain is a value as lists of its parts.
func plain(v reflect.Value) any {
	l := []any{}
	switch v.Kind() {
	case reflect.Struct:
		for i := range v.NumField() {
			l = append(l, plain(v.Field(i)))
		}
	case reflect.Slice:
		for i := range v.Len() {
			l = append(l, plain(v.Index(i)))
		}
	default:
		return v.Interface()
	}
	return l
}

// same reports whether two values are equal; no items are nil or empty.
func same(a, b any) bool {
	return reflect.DeepEqual(plain(reflect.ValueOf(a)), plain(reflect.ValueOf(b)))
}

// TestHelp holds the helpers against what they have to tell.
func TestHelp(t *testing.T) {
	s := "x = 1; flow y in V; parameter z.w[2] = -1/2 in kg/s; discrete d; equation x = 2 * y; initial x = 1; connect z a; connect b.c b.d @ b; when x < 1 set d = 2 set x = pre(d); when x < 2"
	f := flatOf(s)
	if got := show(f); got != s {
		t.Error(got)
	}
	g := flatOf(s)
	if !apart(f) || share(f, g) || !share(f, f.Eqs[:1]) || !same(f, g) || apart([]api.Flat{f, f}) {
		t.Error("memory")
	}
	if g.Eqs[0].R.Kids[1].Name = "q"; same(f, g) {
		t.Error("same")
	}
	if !same(env("x 1, der(x) 2/3"), []api.Bind{{Name: "x", V: num("1")}, {Name: "der(x)", V: num("2/3")}}) || len(env("")) != 0 {
		t.Error("env")
	}
}
