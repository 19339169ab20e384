package model

import (
	"fmt"
	"math"
	"slices"
	"strings"
	"testing"

	"isocline/api"
)

// words are those that are no simple names.
const words = "model port partial extends inner outer replaceable flow parameter discrete equation initial connect when set end in is Real time class connector abstract base param state number eq start wire on put if then else or and not der pre abs min max"

// simple and notSimple are texts that are simple names, and that are none.
func simple() []string {
	return []string{"a", "Z", "a1", "a_", "a_b_2", "sixteen_bytes_16", "models", "Model", "real", "x", "ends", "inn"}
}

func notSimple() []string {
	return append(strings.Split(words, " "), "", "1", "1a", "_", "_a", "a b", " a", "a ", "a-b", "a\n", "a\x00", "é", "aé", "seventeen_bytes_1", strings.Repeat("a", 1000), "a[1]", "a(", "#", "@", "[", "`", "{", "/", ":")
}

// checkEach validates what each text makes of a class.
func checkEach(t *testing.T, what string, texts []string, set func(c *api.Class, s string), want api.Errno) {
	t.Helper()
	for _, s := range texts {
		c := full()
		set(&c, s)
		if err := Validate(c); err != want {
			t.Errorf("%s %q: %v, not %v", what, s, err, want)
		}
	}
}

// joined are texts with dots.
func joined() []string {
	return []string{"a.b", "sixteen_bytes_16.a", "a.a.a"}
}

func notJoined() []string {
	return []string{".", "a.", ".a", "a..b", "a.model", "time.a", "a.1", "a. b", "a.seventeen_bytes_1"}
}

// long are texts of simple names of 60 and 61 bytes.
func long() (string, string) {
	s := strings.Repeat("sixteen_bytes_16.", 3) + "nine_byte"
	return s, s + "s"
}

func TestNames(t *testing.T) {
	most, over := long()
	component := func(c *api.Class, s string) { c.Comps[0].Name = s }
	checkEach(t, "component", slices.Concat(notSimple(), joined(), notJoined()), component, api.ErrArg)
	checkEach(t, "component", simple(), component, api.OK)

	classes := map[string]func(c *api.Class, s string){
		"class":                 func(c *api.Class, s string) { c.Name = s },
		"base":                  func(c *api.Class, s string) { c.Bases[0].Name = s },
		"type":                  func(c *api.Class, s string) { c.Comps[2].Type = s },
		"type of a modifier":    func(c *api.Class, s string) { c.Comps[2].Mods[2].Type = s },
		"type of an extension":  func(c *api.Class, s string) { c.Bases[1].Mods[1].Type = s },
		"path, as such a name":  func(c *api.Class, s string) { c.Bases[1].Mods[0].Path = s },
		"path in a component":   func(c *api.Class, s string) { c.Comps[2].Mods[0].Path = s },
		"path with another one": func(c *api.Class, s string) { c.Comps[2].Mods[2].Path = s + ".a" },
		"end A":                 func(c *api.Class, s string) { c.Links[0].A = s },
		"end B":                 func(c *api.Class, s string) { c.Links[1].B = s },
		"set":                   func(c *api.Class, s string) { c.Whens[0].Sets[1].Name = s },
	}
	for what, set := range classes {
		paths := strings.HasPrefix(what, "path")
		ends := strings.HasPrefix(what, "end") || what == "set"
		notNames := append(notSimple(), notJoined()...)
		if ends {
			notNames = slices.DeleteFunc(notNames, func(s string) bool { return s == "a[1]" })
		}
		if what == "type" {
			notNames = slices.DeleteFunc(notNames, func(s string) bool { return s == realType })
		}
		checkEach(t, what, notNames, set, api.ErrArg)
		checkEach(t, what, append(simple(), append(joined(), most)...), set, api.OK)
		if paths {
			checkEach(t, what, []string{over, strings.Repeat("a.", 1000) + "a"}, set, api.OK)
		} else {
			checkEach(t, what, []string{over, most + ".a", strings.Repeat("a.", 1000) + "a"}, set, api.ErrArg)
		}
	}
}

func TestEnds(t *testing.T) {
	most, _ := long()
	sets := []func(c *api.Class, s string){
		func(c *api.Class, s string) { c.Links[0].A = s },
		func(c *api.Class, s string) { c.Links[0].B = s },
		func(c *api.Class, s string) { c.Whens[0].Sets[0].Name = s },
	}
	for _, set := range sets {
		checkEach(t, "end", []string{"a[1]", "a[8]", "a[3].b", "a.b[2]", "a[1].b[2].c[3]", "sixteen_bytes_16[1]", most[:57] + "[8]"}, set, api.OK)
		checkEach(t, "end", []string{"a[0]", "a[9]", "a[10]", "a[-1]", "a[+1]", "a[01]", "a[]", "a[", "a]", "a[1", "a1]", "[1]", "a[1][2]", "a[1]b", "a[b]", "a[1].", "a[1]]", "a[[1]]", "a[ 1]", "a [1]", "a.[1]", "model[1]", "a[1.]", "a[18446744073709551617]", "seventeen_bytes_1[1]", most[:58] + "[8]"}, set, api.ErrArg)
	}
}

// bad is a change of full that has an error, of the errors that Validate names the one of a rank.
type bad struct {
	what   string
	rank   int
	err    api.Errno
	change func(c *api.Class)
	at     int // the number of the expression that it changes, from 1, 0 for none
}

// times is a list of n items, each one as it is made.
func times[T any](n int, make func(i int) T) []T {
	var l []T
	for i := range n {
		l = append(l, make(i))
	}
	return l
}

func someMods(n int) []api.Mod {
	return times(n, func(i int) api.Mod { return value(fmt.Sprint("p", i), "1") })
}

// sizes has every list too long.
func sizes() []bad {
	large := func(what string, change func(c *api.Class)) bad { return bad{what, 1, api.ErrLarge, change, 0} }
	return []bad{
		large("bases", func(c *api.Class) {
			c.Bases = append(c.Bases, times(5, func(int) api.Base { return api.Base{Name: "t"} })...)
		}),
		large("components", func(c *api.Class) {
			c.Comps = append(c.Comps, times(37, func(i int) api.Comp { return api.Comp{Name: fmt.Sprint("k", i), Type: "Real"} })...)
		}),
		large("equations", func(c *api.Class) {
			c.Eqs = append(c.Eqs, times(39, func(int) api.Eq { return api.Eq{L: ex("1"), R: ex("1")} })...)
		}),
		large("links", func(c *api.Class) {
			c.Links = append(c.Links, times(39, func(int) api.Link { return api.Link{A: "a", B: "b"} })...)
		}),
		large("whens", func(c *api.Class) {
			c.Whens = append(c.Whens, times(39, func(int) api.When { return api.When{C: ex("1 < 2")} })...)
		}),
		large("sets", func(c *api.Class) {
			c.Whens[1].Sets = times(7, func(int) api.Set { return api.Set{Name: "a", E: ex("1")} })
		}),
		large("modifiers of a base", func(c *api.Class) { c.Bases[0].Mods = someMods(9) }),
		large("modifiers of a component", func(c *api.Class) { c.Comps[2].Mods = someMods(9) }),
	}
}

// fields has fields that are not as described.
func fields() []bad {
	arg := func(what string, change func(c *api.Class)) bad { return bad{what, 2, api.ErrArg, change, 0} }
	return []bad{
		arg("name", func(c *api.Class) { c.Name = "" }),
		arg("Kind", func(c *api.Class) { c.Kind = 3 }),
		arg("Kind below", func(c *api.Class) { c.Kind = math.MinInt }),
		arg("Var", func(c *api.Class) { c.Comps[0].Var = 3 }),
		arg("Var below", func(c *api.Class) { c.Comps[0].Var = -1 }),
		arg("Scope", func(c *api.Class) { c.Comps[0].Scope = 3 }),
		arg("Scope below", func(c *api.Class) { c.Comps[2].Scope = -1 }),
		arg("Size", func(c *api.Class) { c.Comps[3].Size = 9 }),
		arg("Size below", func(c *api.Class) { c.Comps[2].Size = -1 }),
		arg("Unit", func(c *api.Class) { c.Comps[0].Unit = "Q" }),
		arg("Unit of two blanks", func(c *api.Class) { c.Comps[0].Unit = "2  V" }),
		arg("Unit with a blank", func(c *api.Class) { c.Comps[0].Unit = " V" }),
		arg("long Unit", func(c *api.Class) { c.Comps[0].Unit = strings.Repeat("V/", 400) + "V" }),
		arg("Unit that is too large", func(c *api.Class) { c.Comps[0].Unit = "Gbar" }),
		arg("Flow of a class", func(c *api.Class) { c.Comps[2].Flow = true }),
		arg("Unit of a class", func(c *api.Class) { c.Comps[2].Unit = "V" }),
		arg("Var of a class", func(c *api.Class) { c.Comps[2].Var = api.VDisc }),
		arg("Value of a class", func(c *api.Class) { c.Comps[2].Value = ex("1") }),
		arg("Value of a class that is no expression", func(c *api.Class) { c.Comps[2].Value = api.Expr{Kids: make([]api.Expr, 1)} }),
		arg("Replace of Real", func(c *api.Class) { c.Comps[1].Replace = true }),
		arg("Mods of Real", func(c *api.Class) { c.Comps[1].Mods = []api.Mod{value("a", "1")} }),
		arg("In", func(c *api.Class) { c.Links[1].In = "a" }),
		arg("modifier with both", func(c *api.Class) { c.Bases[1].Mods[1].Value = ex("1") }),
		arg("modifier with both, in a component", func(c *api.Class) { c.Comps[2].Mods[0].Type = "t" }),
		arg("modifier with neither", func(c *api.Class) { c.Bases[1].Mods[0].Value = api.Expr{} }),
		arg("modifier with neither, in a component", func(c *api.Class) { c.Comps[2].Mods[2].Type = "" }),
		arg("modifier with a Type and what is no expression", func(c *api.Class) { c.Comps[2].Mods[2].Value = api.Expr{N: q(0, 1)} }),
		arg("modifier of the Type Real", func(c *api.Class) { c.Comps[2].Mods[2].Type = realType }),
		arg("empty Type", func(c *api.Class) { c.Comps[0].Type = "" }),
		arg("no path", func(c *api.Class) { c.Comps[2].Mods[1].Path = "" }),
		arg("no end", func(c *api.Class) { c.Links[0].B = "" }),
		arg("no set", func(c *api.Class) { c.Whens[0].Sets[0].Name = "" }),
	}
}

// twins has names that stand twice.
func twins() []bad {
	twice := func(what string, change func(c *api.Class)) bad { return bad{what, 3, api.ErrTwice, change, 0} }
	return []bad{
		twice("components", func(c *api.Class) { c.Comps[3].Name = c.Comps[2].Name }),
		twice("paths", func(c *api.Class) { c.Comps[2].Mods[1].Path = "r" }),
		twice("paths of a value and a type", func(c *api.Class) { c.Bases[1].Mods[1].Path = "x" }),
	}
}

// places are the expressions of full, in the order in which they are printed.
func places(c *api.Class) []*api.Expr {
	return []*api.Expr{
		&c.Bases[1].Mods[0].Value,
		&c.Comps[1].Value, &c.Comps[1].Cond,
		&c.Comps[2].Mods[0].Value, &c.Comps[2].Mods[1].Value, &c.Comps[2].Cond,
		&c.Comps[3].Value,
		&c.Eqs[0].L, &c.Eqs[0].R, &c.Eqs[1].L, &c.Eqs[1].R,
		&c.Whens[0].C, &c.Whens[0].Sets[0].E, &c.Whens[0].Sets[1].E,
		&c.Whens[1].C,
	}
}

// mustBeCondition reports whether a condition has to be at that place.
func mustBeCondition(i int) bool { return slices.Contains([]int{2, 5, 11, 14}, i) }

// badExpressions have expr.Validate's errors, kind by kind.
func badExpressions() map[api.Errno][]api.Expr {
	ring := make([]api.Expr, 1)
	ring[0] = api.Expr{Op: api.ENeg, Kids: ring}
	return map[api.Errno][]api.Expr{
		api.ErrLarge: {{Op: api.ENeg, Kids: ring}, {Op: api.EAdd, Kids: make([]api.Expr, 1000)}},
		api.ErrArg:   {{Op: 99}, {Name: "x"}, {N: q(1, 1)}, {Op: api.EName}, {Op: api.EConst}},
		api.ErrType:  {{Op: api.ENot, Kids: []api.Expr{name("x")}}},
	}
}

// expressions has errors of expressions at each place.
func expressions() []bad {
	var l []bad
	for i := range places(new(full())) {
		add := func(what string, rank int, err api.Errno, e api.Expr) {
			l = append(l, bad{fmt.Sprint(what, " at ", i), rank, err, func(c *api.Class) { *places(c)[i] = e }, i + 1})
		}
		for err, es := range badExpressions() {
			for _, e := range es {
				add(fmt.Sprint("error ", err), 10+i, err, e)
			}
		}
		for _, s := range []string{"model", "if.x", "end[1]", "der(max.y)", "pre(set)", "1 + x * abs(min.z)", "Real", "start[2].a", "time + wire"} {
			e := ex(s)
			if mustBeCondition(i) {
				e = api.Expr{Op: api.ELess, Kids: []api.Expr{e, ex("1")}}
			}
			add(s, 50, api.ErrArg, e)
		}
		other := ex("x < 1 or y < 2")
		if mustBeCondition(i) {
			other = ex("x + 1")
		}
		add("sort", 60, api.ErrType, other)
		if i >= 7 {
			add("zero", 10+i, api.ErrArg, api.Expr{})
		}
	}
	return l
}

// TestValidate makes each change alone, and any two of them: the one of the lesser rank tells.
func TestValidate(t *testing.T) {
	if err := Validate(full()); err != api.OK {
		t.Fatalf("full: %v", err)
	}
	l := slices.Concat(sizes(), fields(), twins(), expressions())
	for _, a := range l {
		c := full()
		a.change(&c)
		if err := Validate(c); err != a.err {
			t.Errorf("%s: %v, not %v", a.what, err, a.err)
		}
		for _, b := range l {
			if a.rank >= b.rank || a.at == b.at && a.at > 0 {
				continue
			}
			c := full()
			b.change(&c)
			a.change(&c)
			if err := Validate(c); err != a.err {
				t.Errorf("%s with %s: %v, not %v", a.what, b.what, err, a.err)
			}
		}
	}
}

// TestWords has each word as the beginning of a name, and what only looks like one.
func TestWords(t *testing.T) {
	set := func(c *api.Class, s string) { c.Eqs[0].L = api.Expr{Op: api.EDer, Name: s} }
	for _, word := range strings.Split(words, " ") {
		want := api.ErrArg
		if word == "time" {
			want = api.OK
		}
		checkEach(t, "name", []string{word + ".x", word + "[1]", word + ".", word + "[[.x"}, set, want)
		checkEach(t, "name", []string{word + "s", word + "_.x", word + "]", word + "1[2]", "a." + word, "a[1]." + word, "a[" + word + "]", strings.ToUpper(word)}, set, api.OK)
	}
	for _, word := range []string{"model", "Real", "in", "is", "put"} {
		checkEach(t, "name", []string{word}, set, api.ErrArg)
	}
	checkEach(t, "name", []string{"time", "a", "sixteen_bytes_16_and_more", "ends", "End"}, set, api.OK)
}

// TestValidateMost has every list as long as it may be, and the least class.
func TestValidateMost(t *testing.T) {
	c := full()
	c.Bases = append(c.Bases, times(4, func(int) api.Base { return api.Base{Name: "t", Mods: someMods(8)} })...)
	c.Comps = append(c.Comps, times(36, func(i int) api.Comp { return api.Comp{Name: fmt.Sprint("k", i), Type: "t", Mods: someMods(8)} })...)
	c.Eqs = append(c.Eqs, times(38, func(int) api.Eq { return api.Eq{L: ex("1"), R: ex("time.x + der(time)")} })...)
	c.Links = append(c.Links, times(38, func(int) api.Link { return api.Link{A: "a", B: "a"} })...)
	c.Whens = append(c.Whens, times(38, func(int) api.When {
		return api.When{C: ex("1 < 2"), Sets: times(6, func(int) api.Set { return api.Set{Name: "a", E: ex("1")} })}
	})...)
	for _, x := range []api.Class{c, {Name: "a"}, {Name: "a", Bases: []api.Base{}, Comps: []api.Comp{{Name: "x", Type: "Real", Cond: api.Expr{Kids: []api.Expr{}}, Mods: []api.Mod{}}}}} {
		if err := Validate(x); err != api.OK {
			t.Errorf("%v: %v", x, err)
		}
	}
}

func TestValidateAll(t *testing.T) {
	class := func(i int) api.Class { return api.Class{Name: fmt.Sprint("c", i)} }
	bad := api.Class{Kind: 3}
	large := api.Class{Name: "l", Bases: make([]api.Base, 7)}
	for i, x := range []struct {
		l   []api.Class
		err api.Errno
	}{
		{nil, api.OK},
		{[]api.Class{full(), pin(), resistor()}, api.OK},
		{times(60, class), api.OK},
		{times(61, class), api.ErrLarge},
		{make([]api.Class, 61), api.ErrLarge},
		{[]api.Class{pin(), bad, large}, api.ErrArg},
		{[]api.Class{pin(), large, bad}, api.ErrLarge},
		{[]api.Class{pin(), pin(), bad}, api.ErrArg},
		{[]api.Class{pin(), resistor(), pin()}, api.ErrTwice},
		{[]api.Class{{Name: "a"}, {Name: "a.a"}, {Name: "A"}}, api.OK},
	} {
		if err := ValidateAll(x.l); err != x.err {
			t.Errorf("%d: %v, not %v", i, err, x.err)
		}
	}
}
