package model

import (
	"math/rand"
	"reflect"
	"slices"
	"strings"
	"testing"

	"isocline/api"
)

func TestParse(t *testing.T) {
	pinText := "port pin\nReal v in V\nflow Real i in A\nend pin\n"
	resistorText := "model res\npin p\npin n\nparameter Real r = 10 in Ohm\nequation p.v - n.v = r * p.i\nequation p.i + n.i = 0\nend res\n"
	for _, x := range []struct {
		s string
		l []api.Class
	}{
		{"", nil},
		{"\n", nil},
		{"   \n\n# model\n  # \n ", nil},
		{"#", nil},
		{"model a\nend a", []api.Class{{Name: "a"}}},
		{"model a\nend a\n", []api.Class{{Name: "a"}}},
		{"\n  port   a.b_1 \n \n#\nend    a.b_1  \n#end", []api.Class{{Name: "a.b_1", Kind: api.KPort}}},
		{"partial p\nend p\nmodel m\nend m", []api.Class{{Name: "p", Kind: api.KPartial}, {Name: "m"}}},
		{pinText, []api.Class{pin()}},
		{pinText + "\n" + resistorText, []api.Class{pin(), resistor()}},
		{resistorText + pinText, []api.Class{resistor(), pin()}},
		{fullText, []api.Class{full()}},
	} {
		l, at, err := Parse(x.s)
		if !reflect.DeepEqual(l, x.l) || at != 0 || err != api.OK {
			t.Errorf("Parse of %q: %v %d %v", x.s, l, at, err)
		}
	}
}

// inClass is the text of a class with these lines.
func inClass(lines string) string {
	return "model m\n" + lines + "\nend m\n"
}

// TestParseLines reads lines that Print writes in another way.
func TestParseLines(t *testing.T) {
	for line, want := range map[string]string{
		"  Real  x ":                                        "Real x",
		"inner   flow  parameter  Real  x":                  "inner flow parameter Real x",
		"outer  replaceable  t  x[2]":                       "outer replaceable t x[2]",
		"Real x  =  1  in  V  when  a<b":                    "Real x = 1 in V when a < b",
		"Real x   in   2 V":                                 "Real x in 2 V",
		"Real x in 2 V   when a<b":                          "Real x in 2 V when a < b",
		"Real x[3] = -(1)*( 2 )":                            "Real x[3] = -(1) * 2",
		"Real x = (a) when (a)<(b)":                         "Real x = a when a < b",
		"Real x = if a<b then 1 else 2 in V when a < b":     "Real x = if a < b then 1 else 2 in V when a < b",
		"Real ends = innx + whenx":                          "Real ends = innx + whenx",
		"res r1(r = 5)":                                     "res r1(r = 5)",
		"res  r1(r  =  5,  q.r  is  a.b,   s =  1)":         "res r1(r = 5, q.r is a.b, s = 1)",
		"res r(a = min(1,max(2,3)),  b = (((4))), c = (5))": "res r(a = min(1, max(2, 3)), b = 4, c = 5)",
		"res r ( a = 1 , b is t , c = 2 )  when  a<b":       "res r(a = 1, b is t, c = 2) when a < b",
		"models portx":                                      "models portx",
		"flows innerx":                                      "flows innerx",
		"Realx y":                                           "Realx y",
		"ends end1":                                         "ends end1",
		"a.b.c x":                                           "a.b.c x",
		"extends   t":                                       "extends t",
		"extends   t(a  =  1,  b is c)":                     "extends t(a = 1, b is c)",
		"extends t ( a = 1 )":                               "extends t(a = 1)",
		"equation   x  =  y":                                "equation x = y",
		"equation (x) = (y)":                                "equation x = y",
		"equation x = if y<z then 1 else 2":                 "equation x = if y < z then 1 else 2",
		"initial  x  =  1":                                  "initial x = 1",
		"connect   a.b[2].c    d":                           "connect a.b[2].c d",
		"when   a<b\nend   when":                            "when a < b\nend when",
		"when a<b\n\n # \n set  a[1]  =  1\nset b = 2\n end when": "when a < b\nset a[1] = 1\nset b = 2\nend when",
		"Real x = 1\n# comment = 2\nReal y":                       "Real x = 1\nReal y",
		"Real x = 1\n   #\n\n  \nReal y":                          "Real x = 1\nReal y",
	} {
		l, at, err := Parse(inClass(line))
		if err != api.OK || at != 0 {
			t.Errorf("Parse of %q: %d %v", line, at, err)
			continue
		}
		if s, err := Print(l); s != inClass(want) || err != api.OK {
			t.Errorf("Parse of %q: %q %v", line, s, err)
		}
	}
}

// TestParseOrder mixes the lines of a class that may be mixed: each kind keeps its order.
func TestParseOrder(t *testing.T) {
	lines := []string{"Real x", "Real y", "equation x = 1", "initial y = 2", "connect a b", "connect b a", "when x < 1\nset y = 3\nset x = 4\nend when", "when x < 2\nend when"}
	want := inClass("extends t\nextends u\n" + strings.Join(lines, "\n"))
	r := rand.New(rand.NewSource(1))
	for range 100 {
		mixed := slices.Clone(lines)
		r.Shuffle(len(mixed), func(i, j int) { mixed[i], mixed[j] = mixed[j], mixed[i] })
		for i := 0; i < len(lines); i += 2 { // the two of a kind as they were
			a, b := slices.Index(mixed, lines[i]), slices.Index(mixed, lines[i+1])
			mixed[min(a, b)], mixed[max(a, b)] = lines[i], lines[i+1]
		}
		s := inClass("extends t\nextends u\n" + strings.Join(mixed, "\n"))
		l, at, err := Parse(s)
		if got, _ := Print(l); got != want || at != 0 || err != api.OK {
			t.Fatalf("Parse of %q: %d %v", s, at, err)
		}
	}
}

// syntaxLines cannot stand in a class behind its first line.
func syntaxLines() []string {
	most, over := long()
	l := []string{
		"Real", "x", "Real x y", "Real x.y", "Real 1", "Real x,", "real", "Real(a = 1) x", "Real x z = 1", "\tReal x", "Real\tx", "Real x\r", "Real x#",
		"flow", "flow x", "flow flow Real x", "parameter flow Real x", "replaceable inner t x", "flow replaceable t x", "inner outer Real x", "parameter discrete Real x", "discrete parameter Real x", "discrete inner Real x", "flowReal", "Real flow x",
		"Real x[]", "Real x[0]", "Real x[9]", "Real x[10]", "Real x[-1]", "Real x[01]", "Real x[+1]", "Real x[a]", "Real x[1", "Real x 1]", "Real x[1]]", "Real x[1][2]", "Real x [1]", "Real x[ 1]", "Real x[1 ]", "Real [1]", "Real x[1.]", "Real x[99999999999999999999]",
		"Real x =", "Real x = ", "Real x=1", "Real x= 1", "Real x =1", "Real x == 1", "Real x = = 1", "Real x = 1 2", "Real x = 1 +", "Real x = (1", "Real x = 1)", "Real x = 1 = 2", "Real x = (1 in V)", "Real x = $", "= 1", "Real = 1",
		"Real x in", "Real x in ", "Real x inV", "Real x in Q", "Real x in 2  V", "Real x in V  .m", "Real x in V in A", "Real x in V = 1", "Real x in V/", "Real x in when a < b", "Real x in V when", "Real x in V A", "Real x in Gbar", "Real x = in V", "Real x = 1 in", "Real x in " + strings.Repeat("1/", 300) + "s",
		"Real x when", "Real x when a < b in V", "Real x when a < b = 1", "Real x when a < b when c < d", "Real x when a < b <", "Real x = 1 when", "Real x = when a < b", "Real x when(a < b)",
		"t x(", "t x()", "t x)", "t x(a)", "t x(a = 1", "t x(a = 1))", "t x(a = )", "t x(= 1)", "t x(a=1)", "t x(a =1)", "t x(a= 1)", "t x(a is)", "t x(a is )", "t x(a is 1)", "t x(a is Real)", "t x(a is t u)", "t x(a isb)", "t x(is t)", "t x(a == 1)", "t x(a b = 1)", "t x(a = 1 b = 2)", "t x(a = 1,)", "t x(a = 1, )", "t x(, a = 1)", "t x(a = 1,, b = 2)", "t x(a = 1,b = 2)", "t x(a is b,c = 2)", "t x(a = 1) b", "t x(a = 1)(b = 1)", "t x(a = 1)[2]", "t x(a = 1)= 2", "t x(a = 1)in V", "t x(a = 1)when a < b", "t x(a[1] = 1)", "t x(a.model = 1)", "t x(a..b = 1)", "t x(a is b.in)", "t x(a = (1)", "t x(a = 1 in V)", "t x(a = 1 when b < c)", "t x(a = min(1, 2)", "t(a = 1) x",
		"model x", "model", "port x", "partial x", "extends", "extends ", "extends t u", "extends t(", "extends t()", "extends t(a = 1) u", "extends t(a = 1) = 2", "extends Real", "extends t.", "extends t[1]", "extends(t)", "extends t in V",
		"equation", "equation x", "equation x =", "equation = x", "equation x=1", "equation x = 1 = 2", "equation x = ", "equation(x) = 1", "equation (x = 1)", "equation x 1", "equation x = 1 in V", "equation x = 1 when a < b", "initial", "initial x", "initial x=1", "initial equation x = 1", "equation initial x = 1", "equation x = 1,", "equationx = 1",
		"connect", "connect a", "connect a b c", "connect a, b", "connect a = b", "connect a[9] b", "connect a b[0]", "connect a model", "connect (a) b", "connect a.b. c", "connect " + over + " a", "connect a " + over, "connect a b(c = 1)",
		"when", "when a < b = 1", "when a <", "set a = 1", "end when", "end", "end x", "end m m", "end mm", "endm", "end M", "end m(a = 1)", "end#", "end m #",
		over + " x", "Real seventeen_bytes_1", "seventeen_bytes_1 x", "extends " + over, "t x(a is " + over + ")", "t x(seventeen_bytes_1 = 1)", "\x00", "é x", "Real é", most + "s x", "?", ";",
	}
	for _, word := range strings.Split(words, " ") {
		l = append(l, "Real "+word, "t "+word+" = 1", "t x("+word+" = 1)", "connect "+word+" a", "extends "+word, "t x(a is "+word+")")
		l = append(l, word+".a x", "a."+word+" x")
		if !slices.Contains([]string{"replaceable", "flow", "parameter", "discrete", "Real"}, word) {
			l = append(l, "inner "+word+" x")
		}
	}
	return l
}

// bothPlaces are texts with a line behind the first line of a class, and behind another line of it, with the number of the line.
func bothPlaces(line string) map[string]int {
	return map[string]int{inClass(line): 2, "model a\nend a\n\n# note\n" + inClass("Real k\n"+line): 7}
}

func TestParseSyntax(t *testing.T) {
	for _, line := range syntaxLines() {
		for s, want := range bothPlaces(line) {
			if l, at, err := Parse(s); len(l) > 0 || at != want || err != api.ErrSyntax {
				t.Errorf("Parse of %q: %v %d %v, not %d", s, l, at, err, want)
			}
		}
	}
}

// TestParsePlaces has lines where they may not stand.
func TestParsePlaces(t *testing.T) {
	for s, want := range map[string]int{
		"Real x":                             1,
		"\n\nend a":                          3,
		"foo":                                1,
		"model":                              1,
		"model ":                             1,
		"model 1":                            1,
		"model a b":                          1,
		"model a(x = 1)":                     1,
		"model model":                        1,
		"model Real\nend Real":               1,
		"model a.\nend a.":                   1,
		"models a\nend a":                    1,
		"modela\nend a":                      1,
		"end a":                              1,
		"extends a":                          1,
		"equation a = b":                     1,
		"connect a b":                        1,
		"when a < b\nend when":               1,
		"set a = b":                          1,
		"end when":                           1,
		"model a\nend a\nReal x":             3,
		"model a\nend a\nend a":              3,
		"model a\nmodel b\nend b":            2,
		"model a\nend b":                     2,
		"model a\n\nend A\n":                 3,
		"model a.b\nend b":                   2,
		"model a\nend a.b":                   2,
		"model a":                            1,
		"model a\n":                          1,
		"model a\n\n":                        2,
		"model a\n#\n\n # \n":                4,
		"\n\nmodel a\nReal x":                4,
		"model a\nend a\nport b\n":           3,
		"model a\nwhen x < 1":                2,
		"model a\nwhen x < 1\n":              2,
		"model a\nwhen x < 1\nend when":      3,
		inClass("Real x\nextends a"):         3,
		inClass("equation x = 1\nextends a"): 3,
		inClass("connect a b\nextends a"):    3,
		inClass("when a < b\nend when\nextends a"):                4,
		inClass("extends b\nReal x\nextends a"):                   4,
		inClass("when a < b\nReal x\nend when"):                   3,
		inClass("when a < b\nequation x = 1\nend when"):           3,
		inClass("when a < b\nwhen a < b\nend when\nend when"):     3,
		inClass("when a < b\nextends x\nend when"):                3,
		inClass("when a < b\nconnect x y\nend when"):              3,
		inClass("when a < b\nend m"):                              3,
		inClass("when a < b\nend"):                                3,
		inClass("when a < b\nend whens"):                          3,
		inClass("when a < b\nendwhen"):                            3,
		inClass("when a < b\nend when x"):                         3,
		inClass("when a < b\nset x\nend when"):                    3,
		inClass("when a < b\nset x = 1 = 2\nend when"):            3,
		inClass("when a < b\nset x=1\nend when"):                  3,
		inClass("when a < b\nset x =\nend when"):                  3,
		inClass("when a < b\nset = 1\nend when"):                  3,
		inClass("when a < b\nset\nend when"):                      3,
		inClass("when a < b\nset x + 1 = 2\nend when"):            3,
		inClass("when a < b\nset model = 2\nend when"):            3,
		inClass("when a < b\nset x[9] = 2\nend when"):             3,
		inClass("when a < b\n set x = 1\n\nset x. = 2\nend when"): 5,
	} {
		if l, at, err := Parse(s); len(l) > 0 || at != want || err != api.ErrSyntax {
			t.Errorf("Parse of %q: %v %d %v, not %d", s, l, at, err, want)
		}
	}
}

// TestParseErrors has other errors than ErrSyntax, and which one comes first.
func TestParseErrors(t *testing.T) {
	const mixed = "1 + (a < b)" // ErrType of expr
	large := strings.Repeat("-", 90) + "1"
	tooLong := "1" + strings.Repeat(" + 1", 150)
	for line, want := range map[string]api.Errno{
		"Real x = " + mixed:                                            api.ErrType,
		"Real x when not " + mixed:                                     api.ErrType,
		"t x(a = " + mixed + ")":                                       api.ErrType,
		"extends t(a = " + mixed + ")":                                 api.ErrType,
		"equation " + mixed + " = 1":                                   api.ErrType,
		"equation 1 = " + mixed:                                        api.ErrType,
		"initial 1 = " + mixed:                                         api.ErrType,
		"when not " + mixed:                                            api.ErrType,
		"when a < b\nset a = " + mixed:                                 api.ErrType,
		"Real x = " + large:                                            api.ErrLarge,
		"Real x = " + tooLong:                                          api.ErrLarge,
		"t x(a = " + tooLong + ")":                                     api.ErrLarge,
		"equation " + tooLong + " = 1":                                 api.ErrLarge,
		"equation x = " + strings.Repeat("(", 601):                     api.ErrLarge,
		"Real x = 1" + strings.Repeat(" ", 700) + "in V when " + mixed: api.ErrType,
		"Real x = 1 +" + strings.Repeat(" ", 700) + "1":                api.ErrLarge,
		"equation " + mixed + " = 1 +":                                 api.ErrType,
		"equation 1 + = " + mixed:                                      api.ErrSyntax,
		"equation " + large + " = " + mixed:                            api.ErrLarge,
		"equation " + mixed + " = " + large:                            api.ErrType,
		"equation " + mixed:                                            api.ErrType,
		"Real x = " + mixed + " in Q":                                  api.ErrType,
		"Real 1 = " + mixed:                                            api.ErrSyntax,
		"Real x = " + mixed + " when " + large:                         api.ErrType,
		"Real x = " + large + " when " + mixed:                         api.ErrLarge,
		"Real x in Q when " + mixed:                                    api.ErrSyntax,
		"t x[9](a = " + mixed + ")":                                    api.ErrSyntax,
		"t x(a = " + mixed + ", b)":                                    api.ErrType,
		"t x(a = " + mixed + ", b = " + large + ")":                    api.ErrType,
		"t x(a. = 1, b = " + large + ")":                               api.ErrSyntax,
		"t x(a = " + large + ") y":                                     api.ErrLarge,
		"extends Real(a = " + large + ")":                              api.ErrSyntax,
	} {
		for s, at := range bothPlaces(line) {
			if strings.HasPrefix(line, "extends") && at != 2 {
				continue
			}
			at += strings.Count(line, "\n")
			if l, got, err := Parse(s); len(l) > 0 || got != at || err != want {
				t.Errorf("Parse of %q: %v %d %v, not %d %v", s, l, got, err, at, want)
			}
		}
		s := inClass(line + "\n??")
		if _, _, err := Parse(s); err != want {
			t.Errorf("Parse of %q: %v", s, err)
		}
		s = inClass("??\n" + line)
		if _, at, err := Parse(s); at != 2 || err != api.ErrSyntax {
			t.Errorf("Parse of %q: %d %v", s, at, err)
		}
	}
}

// TestParseInvalid reads texts whose lines are as described, but whose classes are not valid.
func TestParseInvalid(t *testing.T) {
	class := func(name string) string { return "model " + name + "\nend " + name + "\n" }
	many := func(n int, s string) string { return inClass(strings.TrimSuffix(strings.Repeat(s+"\n", n), "\n")) }
	for s, want := range map[string]api.Errno{
		inClass("flow t x"):                           api.ErrArg,
		inClass("parameter t x"):                      api.ErrArg,
		inClass("t x in V"):                           api.ErrArg,
		inClass("t x = 1"):                            api.ErrArg,
		inClass("t x(a = 1) = 2"):                     api.ErrArg,
		inClass("replaceable Real x"):                 api.ErrArg,
		inClass("Real x(a = 1)"):                      api.ErrArg,
		inClass("Real x\nt x"):                        api.ErrTwice,
		inClass("t x(a = 1, a is b)"):                 api.ErrTwice,
		inClass("equation model.x = 1"):               api.ErrArg,
		inClass("equation in = when"):                 api.ErrArg,
		inClass("Real x = in"):                        api.ErrArg,
		inClass("Real x = in in V"):                   api.ErrArg,
		inClass("Real x =   in in V"):                 api.ErrArg,
		inClass("t x(a = is)"):                        api.ErrArg,
		inClass("equation x < 1 = 2"):                 api.ErrType,
		inClass("equation 1 = x < 2"):                 api.ErrType,
		inClass("Real x = 1 < 2"):                     api.ErrType,
		inClass("Real x when 1"):                      api.ErrType,
		inClass("when 1\nend when"):                   api.ErrType,
		inClass("when 1<2\nset a = 1<2\nend when"):    api.ErrType,
		class("a") + class("b") + class("a"):          api.ErrTwice,
		class("a") + inClass("flow t x") + class("a"): api.ErrArg,
		many(6, "extends t"):                          api.OK,
		many(7, "extends t"):                          api.ErrLarge,
		many(40, "equation x = 1"):                    api.OK,
		many(41, "equation x = 1"):                    api.ErrLarge,
		many(40, "connect x y"):                       api.OK,
		many(41, "connect x y"):                       api.ErrLarge,
		many(40, "when x < 1\nend when"):              api.OK,
		many(41, "when x < 1\nend when"):              api.ErrLarge,
		inClass("when 1 < 2\n" + strings.Repeat("set x = 1\n", 7) + "end when"):       api.ErrLarge,
		inClass("t x(a = 1, b = 1, c = 1, d = 1, e = 1, f = 1, g = 1, h = 1, i = 1)"): api.ErrLarge,
	} {
		if l, at, err := Parse(s); (len(l) > 0) != (want == api.OK) || at != 0 || err != want {
			t.Errorf("Parse of %q: %v %d %v, not %v", s, l, at, err, want)
		}
	}
	var classes strings.Builder
	for i := range api.MaxClasses + 1 {
		if l, at, err := Parse(classes.String()); len(l) != i || at != 0 || err != api.OK {
			t.Errorf("Parse of %d classes: %d %d %v", i, len(l), at, err)
		}
		classes.WriteString(class("c" + strings.Repeat("x", i/8) + string(rune('0'+i%8))))
	}
	if l, at, err := Parse(classes.String()); len(l) != 0 || at != 0 || err != api.ErrLarge {
		t.Errorf("Parse of too many classes: %d %d %v", len(l), at, err)
	}
}

// TestParseSource has texts of as many bytes as they may have, and of one more.
func TestParseSource(t *testing.T) {
	for _, s := range []string{"", "#", "model a\nend a\n", "??\n", "model a\n"} {
		full := s + strings.Repeat(" ", api.MaxSource-len(s))
		_, at, err := Parse(s)
		if s == "model a\n" {
			at = 2 // the blanks are another line
		}
		if _, got, err2 := Parse(full); got != at || err2 != err {
			t.Errorf("Parse of %q with blanks: %d %v, not %d %v", s, got, err2, at, err)
		}
		if l, at, err := Parse(full + " "); len(l) > 0 || at != 0 || err != api.ErrLarge {
			t.Errorf("Parse of %q with too many blanks: %d %v", s, at, err)
		}
	}
	if l, at, err := Parse(strings.Repeat("?", 10000000)); len(l) > 0 || at != 0 || err != api.ErrLarge {
		t.Errorf("Parse of a long text: %d %v", at, err)
	}
}

// TestBack prints and reads random classes; more blanks, comments and empty lines change nothing.
func TestBack(t *testing.T) {
	m := newMaker(1)
	for range 2000 {
		l := m.library()
		s, err := Print(l)
		if err != api.OK {
			t.Fatalf("Print of %v: %v", l, err)
		}
		if back, at, err := Parse(s); !reflect.DeepEqual(back, l) || at != 0 || err != api.OK {
			t.Fatalf("Parse of %q: %v %d %v, not %v", s, back, at, err, l)
		}
		var loose strings.Builder
		for line := range strings.Lines(s) {
			loose.WriteString(m.one("", "\n", "  \n", "# note\n", " #\n"))
			if !strings.Contains(line, " in ") { // in a Unit blanks may not be more
				line = strings.ReplaceAll(line, " ", m.one(" ", "  ", "   "))
			}
			loose.WriteString(m.one("", " ", "   ") + strings.TrimSuffix(line, "\n") + m.one("", " ", "  ") + "\n")
		}
		if back, at, err := Parse(strings.TrimSuffix(loose.String(), "\n")); !reflect.DeepEqual(back, l) || at != 0 || err != api.OK {
			t.Fatalf("Parse of %q: %v %d %v, not %v", loose.String(), back, at, err, l)
		}
	}
}

// TestParseAny reads texts of words that need not be classes: what is read is valid and is read again from its text.
func TestParseAny(t *testing.T) {
	m := newMaker(2)
	tokens := append(strings.Split(words, " "), strings.Split("= ( ) , [2] [9] . < + - x y a.b t 1 2/3 V m/s # \x00 é model|a end|a end|when Real|x equation|x|=|1 when|x|<|1 set|x|=|1 connect|a|b", " ")...)
	for range 30000 {
		s := ""
		if m.chance(2) {
			s = "model a\n"
		}
		for range m.r.Intn(20) {
			s += strings.ReplaceAll(tokens[m.r.Intn(len(tokens))], "|", " ") + m.one("", " ", " ", "\n", "\n")
		}
		if m.chance(2) {
			s += "\nend a"
		}
		l, at, err := Parse(s)
		if err != api.OK {
			if len(l) > 0 || at > strings.Count(s, "\n")+1 || err == api.ErrSyntax && at < 1 {
				t.Fatalf("Parse of %q: %v %d %v", s, l, at, err)
			}
			continue
		}
		text, err := Print(l)
		back, _, _ := Parse(text)
		if at != 0 || err != api.OK || ValidateAll(l) != api.OK || !reflect.DeepEqual(back, l) {
			t.Fatalf("Parse of %q: %v %d, as text %q %v", s, l, at, text, err)
		}
	}
}
