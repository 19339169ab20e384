package model

import (
	"reflect"
	"slices"
	"strings"
	"testing"

	"isocline/api"
)

// arguments are those of all functions, in one form.
type arguments struct {
	l        []api.Class
	c        api.Class
	s        string
	from, to string
}

// call is a function with the error that its arguments have by themselves; what it returns is in a list, the error last.
type call struct {
	name string
	err  func(a arguments) api.Errno
	of   func(a arguments) []any
}

func calls() []call {
	one := func(a arguments) api.Errno { return Validate(a.c) }
	all := func(a arguments) api.Errno { return ValidateAll(a.l) }
	both := func(a arguments) api.Errno {
		if err := all(a); err != api.OK {
			return err
		}
		return one(a)
	}
	none := func(arguments) api.Errno { return api.OK }
	list := func(l ...any) []any { return l }
	return []call{
		{"Validate", one, func(a arguments) []any { return list(Validate(a.c)) }},
		{"ValidateAll", all, func(a arguments) []any { return list(ValidateAll(a.l)) }},
		{"Parse", none, func(a arguments) []any { return list(Parse(a.s)) }},
		{"Print", all, func(a arguments) []any { return list(Print(a.l)) }},
		{"Find", all, func(a arguments) []any { return list(Find(a.l, a.from)) }},
		{"Put", both, func(a arguments) []any { return list(Put(a.l, a.c)) }},
		{"Drop", all, func(a arguments) []any { return list(Drop(a.l, a.from)) }},
		{"Rename", all, func(a arguments) []any { return list(Rename(a.l, a.from, a.to)) }},
		{"Uses", one, func(a arguments) []any { return list(Uses(a.c)) }},
	}
}

// isNothing reports whether x is the zero value, or an empty slice.
func isNothing(x any) bool {
	v := reflect.ValueOf(x)
	return v.Kind() == reflect.Slice && v.Len() == 0 || v.IsZero()
}

// hold reports whether results may be: with an error nothing but it, and the line of a text; else classes are valid, and in memory of their own.
func hold(c call, a arguments, l []any) bool {
	err := l[len(l)-1].(api.Errno)
	if wrong := c.err(a); wrong != api.OK && err != wrong {
		return false
	}
	for i, x := range l[:len(l)-1] {
		classes, is := x.([]api.Class)
		switch {
		case err == api.OK && is && (ValidateAll(classes) != api.OK || !apart(classes)):
			return false
		case err != api.OK && !isNothing(x) && !(c.name == "Parse" && i == 1):
			return false
		}
	}
	return true
}

// samples are classes, good and bad.
func samples() []api.Class {
	l := []api.Class{pin(), resistor(), full(), {}, {Name: "a"}, {Name: strings.Repeat("a.", 1000000) + "a"}, {Name: "a", Comps: make([]api.Comp, 100000)}, {Name: "a", Bases: []api.Base{{Name: "b", Mods: make([]api.Mod, 100000)}}}, {Name: "a", Whens: make([]api.When, 3)}}
	for _, b := range slices.Concat(sizes(), fields(), twins(), expressions()[:40]) {
		c := full()
		b.change(&c)
		l = append(l, c)
	}
	m := newMaker(4)
	for range 40 {
		l = append(l, m.made(m.class()))
	}
	return l
}

// TestAllArguments calls every function with all samples: none panics, errors of arguments come first, the same call returns the same, and no argument is changed.
func TestAllArguments(t *testing.T) {
	l := samples()
	m := newMaker(5)
	names := []string{"pin", "", "res", "a", "x", "model", "a.b_2", "c.d", strings.Repeat("a", 61), "\x00\xff", "Real"}
	texts := []string{fullText, "", "model", "\n\n\n", "model a\nReal x = " + strings.Repeat("(", 2000), strings.Repeat("model a\nend a\n", 300), strings.Repeat("\n", 8000), "\x00\xff\n", "model a\nt x" + strings.Repeat("(a = ", 1000), "model a\nt x(" + strings.Repeat("a = 1, ", 1000), strings.Repeat("when ", 1000)}
	for i, c := range l {
		libraries := [][]api.Class{nil, m.library(), {c}, {pin(), resistor(), c}, {c, c}, {pin(), l[(i*7+3)%len(l)]}}
		for j, lib := range libraries {
			a := arguments{lib, c, texts[(i+j)%len(texts)], names[(i*3+j)%len(names)], names[(i+j*5)%len(names)]}
			valid := ValidateAll(lib) == api.OK && Validate(c) == api.OK
			var kept arguments
			if valid {
				kept = arguments{l: copies(lib, copyClass), c: copyClass(c)}
			}
			for _, f := range calls() {
				got, again := f.of(a), f.of(a)
				if !hold(f, a, got) || !reflect.DeepEqual(got, again) {
					t.Fatalf("%s of sample %d, %d: %v, then %v", f.name, i, j, got, again)
				}
				if valid && (!same(a.l, kept.l) || !same(a.c, kept.c)) {
					t.Fatalf("%s of sample %d, %d changes an argument", f.name, i, j)
				}
			}
		}
	}
}

// TestMemory looks for memory that results share with arguments, or within themselves, also where the arguments share theirs.
func TestMemory(t *testing.T) {
	c := full()
	d := c
	d.Name = "d"
	shared := []api.Expr{ex("x"), ex("y * z")}
	c.Eqs[0].L = api.Expr{Op: api.EAdd, Kids: shared}
	c.Eqs[1].R = api.Expr{Op: api.EMul, Kids: shared}
	e := resistor()
	l := []api.Class{c, d, pin()}
	results := [][]api.Class{}
	add := func(r []api.Class, err api.Errno) {
		if err != api.OK {
			t.Fatal(err)
		}
		results = append(results, r)
	}
	add(Put(l, e))
	e.Name = "d"
	add(Put(l, e))
	add(Drop(l, "pin"))
	add(Drop(l, "d"))
	add(Rename(l, "d", "x"))
	add(Rename(l, "d", "d"))
	for i, r := range results {
		if !apart(r) || share(r, l) || share(r, e) {
			t.Errorf("result %d shares memory", i)
		}
	}
	if back, _, err := Parse(fullText + "\n" + strings.ReplaceAll(fullText, "a.b_2", "b")); err != api.OK || len(back) != 2 || !apart(back) {
		t.Errorf("Parse: %v %v", back, err)
	}
}
