package expr

import (
	"fmt"
	"math/rand"
	"strings"
	"testing"

	"isocline/api"
	"isocline/rat"
)

// TestParse reads texts that are told by a text in which each node has parentheses: (Op kids).
func TestParse(t *testing.T) {
	for s, want := range map[string]string{
		"x":                           "x",
		"  x  ":                       "x",
		"a1_.[2]":                     "a1_.[2]",
		"if.x":                        "if.x",
		"ifx":                         "ifx",
		"0":                           "0",
		"12":                          "12",
		"0.25":                        "1/4",
		"6/4":                         "3/2",
		"1000000000000":               "1000000000000",
		"10000000000000/10":           "1000000000000",
		"1000000000001/1000000000001": "1",
		"0.000000000001":              "1/1000000000000",
		"-3":                          "-3",
		"-2/3":                        "-2/3",
		"-0":                          "0",
		"-0/5":                        "0",
		"-0.0":                        "0",
		"- 3":                         "(neg 3)",
		"--3":                         "(neg -3)",
		"---3":                        "(neg (neg -3))",
		"-(3)":                        "(neg 3)",
		"-x":                          "(neg x)",
		"- -x":                        "(neg (neg x))",
		"-3^2":                        "(^2 -3)",
		"- 3^2":                       "(neg (^2 3))",
		"-x^2":                        "(neg (^2 x))",
		"-x*y":                        "(* (neg x) y)",
		"x*-y":                        "(* x (neg y))",
		"x*-3":                        "(* x -3)",
		"x-3":                         "(- x 3)",
		"x -3":                        "(- x 3)",
		"x--3":                        "(- x -3)",
		"x- -3":                       "(- x -3)",
		"x-- 3":                       "(- x (neg 3))",
		"-3-3":                        "(- -3 3)",
		"(-3)-3":                      "(- -3 3)",
		"x--y":                        "(- x (neg y))",
		"2/3":                         "2/3",
		"2 /3":                        "(/ 2 3)",
		"2/ 3":                        "(/ 2 3)",
		"2/3/4":                       "(/ 2/3 4)",
		"2/3/4/5":                     "(/ 2/3 4/5)",
		"x/2/3":                       "(/ x 2/3)",
		"x / 2 / 3":                   "(/ (/ x 2) 3)",
		"2/0":                         "(/ 2 0)",
		"0/2":                         "0",
		"0.5/3":                       "(/ 1/2 3)",
		"2/x":                         "(/ 2 x)",
		"x^2/3":                       "(/ (^2 x) 3)",
		"2^2/3":                       "(/ (^2 2) 3)",
		"2/3^2":                       "(^2 2/3)",
		"x^-2":                        "(^-2 x)",
		"x ^ - 2":                     "(^-2 x)",
		"x^-0":                        "(^0 x)",
		"x^0":                         "(^0 x)",
		"x^6":                         "(^6 x)",
		"x^2*y":                       "(* (^2 x) y)",
		"x^2-3":                       "(- (^2 x) 3)",
		"(x^2)^3":                     "(^3 (^2 x))",
		"x+y+z":                       "(+ (+ x y) z)",
		"x-y-z":                       "(- (- x y) z)",
		"x-y+z":                       "(+ (- x y) z)",
		"x-(y+z)":                     "(- x (+ y z))",
		"x*y*z":                       "(* (* x y) z)",
		"x/y*z":                       "(* (/ x y) z)",
		"x+y*z^2":                     "(+ x (* y (^2 z)))",
		"(x+y)*z":                     "(* (+ x y) z)",
		"((x))":                       "x",
		"x<y":                         "(< x y)",
		"x<=y":                        "(<= x y)",
		"x<-3":                        "(< x -3)",
		"x<=-y":                       "(<= x (neg y))",
		"x+1<y*2":                     "(< (+ x 1) (* y 2))",
		"not x<y":                     "(not (< x y))",
		"not not x<y":                 "(not (not (< x y)))",
		"not(x<y)":                    "(not (< x y))",
		"x<y and y<z and z<x":         "(and (and (< x y) (< y z)) (< z x))",
		"x<y or y<z or z<x":           "(or (or (< x y) (< y z)) (< z x))",
		"x<y or y<z and z<x":          "(or (< x y) (and (< y z) (< z x)))",
		"not x<y and y<z":             "(and (not (< x y)) (< y z))",
		"not (x<y and y<z)":           "(not (and (< x y) (< y z)))",
		"x<3and 4<y":                  "(and (< x 3) (< 4 y))",
		"der(x)":                      "der(x)",
		"der ( x )":                   "der(x)",
		"pre(a.b[1])":                 "pre(a.b[1])",
		"abs(x+y)":                    "(abs (+ x y))",
		"abs(-3)":                     "(abs -3)",
		"min(x,y)":                    "(min x y)",
		"max( x , -3 )":               "(max x -3)",
		"min(if x<y then 1 else 2,if x<z then 3 else 4)": "(min (if (< x y) 1 2) (if (< x z) 3 4))",
		"abs(if x<y then 1 else 2)":                      "(abs (if (< x y) 1 2))",
		"if x<y then x else y":                           "(if (< x y) x y)",
		"if x<y then x else y+1":                         "(if (< x y) x (+ y 1))",
		"if x<3then 4else 5":                             "(if (< x 3) 4 5)",
		"if x<y^2then 4 else 5":                          "(if (< x (^2 y)) 4 5)",
		"if x<y then if y<z then 1 else 2 else 3":        "(if (< x y) (if (< y z) 1 2) 3)",
		"if x<y then 1 else if y<z then 2 else 3":        "(if (< x y) 1 (if (< y z) 2 3))",
		"(if x<y then 1 else 2)+3":                       "(+ (if (< x y) 1 2) 3)",
		"if not x<y or y<z then 1 else 2":                "(if (or (not (< x y)) (< y z)) 1 2)",
	} {
		e, at, err := Parse(s)
		if got := told1(e); got != want || at != 0 || err != api.OK {
			t.Errorf("Parse of %q: %s %d %v, not %s", s, got, at, err, want)
		}
	}
}

// told1 is a text of an expression in which each node has parentheses.
func told1(e api.Expr) string {
	ops := map[int]string{
		api.ENeg: "neg", api.EAbs: "abs", api.ENot: "not", api.EAdd: "+", api.ESub: "-", api.EMul: "*", api.EDiv: "/", api.EMin: "min", api.EMax: "max",
		api.ELess: "<", api.ELeq: "<=", api.EAnd: "and", api.EOr: "or", api.EIf: "if",
	}
	switch e.Op {
	case api.EConst:
		s, _ := rat.Print(e.N)
		return s
	case api.EName:
		return e.Name
	case api.EDer:
		return "der(" + e.Name + ")"
	case api.EPre:
		return "pre(" + e.Name + ")"
	case api.EPow:
		return fmt.Sprintf("(^%d %s)", e.N.N, told1(e.Kids[0]))
	}
	s := "(" + ops[e.Op]
	for _, k := range e.Kids {
		s += " " + told1(k)
	}
	return s + ")"
}

// TestParseSyntax marks with | the byte that has to be told.
func TestParseSyntax(t *testing.T) {
	long := strings.Repeat("n", api.MaxName)
	for _, s := range []string{
		"|", "   |", "x |y", "x |2", "2|x", "2 |2", "x+|", "x + |", "x+|*y", "|*x", "|+x", "x|)", "(x|", "(|)", "|)", "(x+y|", "x and |", "x and y |not z",
		"x<y|<z", "x<y |<= z", "x<=y |< z", "x< |=y", "x|=y", "x|>y", "not |", "x< |not y", "x+|not y", "-|not x", "x*|not y",
		"|then", "|else", "|or", "|and", "x |then", "if |", "if x<y|", "if x<y then |", "if x<y then x|", "if x<y then x else |", "if x<y |else x",
		"if x<y then x else y |else z", "if x<y then x |then y", "1+|if x<y then x else y", "-|if x<y then x else y", "x<|if x<y then x else y",
		"not |if x<y then x else y", "x<y and |if x<y then x else y", "x^|if", "(x)|(y)", "x|(y)", "2|(y)",
		"der|", "der |x", "der(|", "der(|)", "der(|2)", "der(x|", "der(x|+y)", "der(|if)", "der(|der(x))", "pre(|(x))", "der(|-x)", "pre(x|,y)",
		"abs|", "abs(|", "abs(|)", "abs(x|", "abs(x|,y)", "abs |x", "min(x|)", "min(x,|)", "min(|,x)", "min(x,y|,z)", "min(x,y|", "max(x |y)",
		"x^|", "x^|y", "x^|7", "x^|9", "x^-|7", "x^-|", "x^-|-2", "x^2|^3", "x^2|3", "x^2|.5", "x^|(2)", "x^|+2", "x^ |", "x^2 |2", "2^1|0",
		"0|0", "0|07", "0|1", "1|.", "1|.x", "1.5|.5", "|.5", "1/|", "1/0|2", "1/|/2", "2/3|.5", "0.123456789012|3", "0.123456789012|03",
		"|123456789012345678901", "|10000000000000", "x+|10000000000000", "x |10000000000000", "|1/10000000000000", "0.000000000000|1",
		"|-10000000000000", "x+|-10000000000000", "x-|10000000000000", "x- |-10000000000000", "-|-10000000000000", "- |10000000000000", "-(|10000000000000)",
		"|_x", "|#", "x|#", "x |é", "|é", "x|\t", "|\n", "x|\x00", "x|;", "x|!", "|'", "x|%y", "x|&y", "x|\xff",
		"|" + long + "n", "x+|" + long + "n*2", "x |" + long + "n", "der(|" + long + "n)",
	} {
		at := strings.Index(s, "|")
		text := s[:at] + s[at+1:]
		e, got, err := Parse(text)
		if got != at || err != api.ErrSyntax || !same(e, api.Expr{}) {
			t.Errorf("Parse of %q: %v %d %v, not at %d", text, e, got, err, at)
		}
	}
}

// TestParseErrors asks for the other errors, which come behind ErrSyntax, and their order.
func TestParseErrors(t *testing.T) {
	flat := strings.Repeat("x+", 39)
	for s, want := range map[string]api.Errno{
		strings.Repeat(" ", api.MaxText):                                        api.ErrSyntax,
		strings.Repeat(" ", api.MaxText-1) + "x":                                api.OK,
		strings.Repeat(" ", api.MaxText) + "x":                                  api.ErrLarge,
		strings.Repeat("#", api.MaxText+1):                                      api.ErrLarge,
		strings.Repeat("#", api.MaxText):                                        api.ErrSyntax,
		strings.Repeat("(", 299) + "x" + strings.Repeat(")", 299):               api.OK,
		strings.Repeat("(", 300) + "x" + strings.Repeat(")", 299):               api.ErrSyntax,
		strings.Repeat("- ", 11) + "x":                                          api.OK,
		strings.Repeat("- ", 12) + "x":                                          api.ErrLarge,
		strings.Repeat("- ", 299) + "x":                                         api.ErrLarge,
		strings.Repeat("- ", 299) + "#":                                         api.ErrSyntax,
		strings.Repeat("not ", 10) + "x<y":                                      api.OK,
		strings.Repeat("not ", 11) + "x<y":                                      api.ErrLarge,
		"x+x+x+x+x+x+x+x+x+x+x+x":                                               api.OK,
		flat + "x":                                                              api.ErrLarge,
		strings.Repeat("(", 39) + strings.ReplaceAll(flat, "x+", "x<y)+") + "x": api.ErrLarge,
		"x<y+z":                                 api.OK,
		"(x<y)+z":                               api.ErrType,
		"x and y":                               api.ErrType,
		"not x":                                 api.ErrType,
		"(x<y)<z":                               api.ErrType,
		"if x then y else z":                    api.ErrType,
		"if x<y then x<y else z":                api.ErrType,
		"if x<y then z else x<y":                api.ErrType,
		"if if x<y then 1 else 2 then y else z": api.ErrType,
		"abs(x<y)":                              api.ErrType,
		"min(x, x<y)":                           api.ErrType,
		"(x<y)^2":                               api.ErrType,
		"-(x<y)":                                api.ErrType,
		"x<y or z":                              api.ErrType,
		"not x )":                               api.ErrSyntax,
	} {
		e, at, err := Parse(s)
		if err != want || at != 0 && err != api.ErrSyntax || err != api.OK && !same(e, api.Expr{}) {
			t.Errorf("Parse of %.40q (%d bytes): %v at %d, not %v", s, len(s), err, at, want)
		}
	}
}

// TestNumbers asks all texts of some bytes how long a beginning of them is a number, as rat.Parse reads it.
func TestNumbers(t *testing.T) {
	r := rand.New(rand.NewSource(1))
	for range 50000 {
		b := make([]byte, 1+r.Intn(50))
		for i := range b {
			b[i] = "0123456789"[r.Intn(10)]
			if r.Intn(14) == 0 {
				b[i] = "/.x -"[r.Intn(5)]
			}
		}
		b[0] = "0123456789"[r.Intn(10)]
		s, want := string(b), 0
		for n := 1; n <= len(s); n++ {
			if _, err := rat.Parse(s[:n]); err != api.ErrSyntax {
				want = n
			}
		}
		if got := numberEnd(s); got != want {
			t.Fatalf("the number in %q is %d long, not %d", s, got, want)
		}
	}
}

// writer writes texts with parentheses and blanks that need not be there.
type writer struct {
	r *rand.Rand
}

// tokens are those of a text of e, in parentheses if it is looser than level.
func (w writer) tokens(e api.Expr, level int) []string {
	if levelOf(e) < level || w.r.Intn(8) == 0 {
		return append(append([]string{"("}, w.tokens(e, levelIf)...), ")")
	}
	at := levelOf(e)
	switch e.Op {
	case api.EConst:
		s, _ := rat.Print(e.N)
		return []string{s}
	case api.EName:
		return []string{e.Name}
	case api.EDer:
		return []string{"der", "(", e.Name, ")"}
	case api.EPre:
		return []string{"pre", "(", e.Name, ")"}
	case api.ENeg:
		return append([]string{"-"}, w.tokens(e.Kids[0], at)...)
	case api.ENot:
		return append([]string{"not"}, w.tokens(e.Kids[0], at)...)
	case api.EAbs:
		return append(append([]string{"abs", "("}, w.tokens(e.Kids[0], levelIf)...), ")")
	case api.EMin, api.EMax:
		l := append([]string{words[e.Op], "("}, w.tokens(e.Kids[0], levelIf)...)
		return append(append(append(l, ","), w.tokens(e.Kids[1], levelIf)...), ")")
	case api.EPow:
		l := append(w.tokens(e.Kids[0], levelClosed), "^")
		if e.N.N < 0 {
			l = append(l, "-")
		}
		return append(l, fmt.Sprint(max(e.N.N, -e.N.N)))
	case api.EIf:
		l := append([]string{"if"}, w.tokens(e.Kids[0], levelIf)...)
		l = append(append(l, "then"), w.tokens(e.Kids[1], levelIf)...)
		return append(append(l, "else"), w.tokens(e.Kids[2], levelIf)...)
	}
	left := at
	if at == levelLess {
		left++
	}
	return append(append(w.tokens(e.Kids[0], left), strings.TrimSpace(operators[e.Op])), w.tokens(e.Kids[1], at+1)...)
}

// join is the text of tokens, and where each of them begins.
func (w writer) join(l []string) (string, []int) {
	s := strings.Repeat(" ", w.r.Intn(2))
	var at []int
	for i, t := range l {
		if i > 0 && (w.r.Intn(3) == 0 || runTogether(l[i-1], t)) {
			s += strings.Repeat(" ", 1+w.r.Intn(2))
		}
		at = append(at, len(s))
		s += t
	}
	return s + strings.Repeat(" ", w.r.Intn(2)), at
}

func runTogether(s, t string) bool {
	switch {
	case isLetter(s[0]):
		return isInName(t[0])
	case isDigit(s[len(s)-1]):
		return t == "/" || isDigit(t[0])
	}
	return s == "-" && isDigit(t[0])
}

func TestParseWritten(t *testing.T) {
	m := newMaker(2, allOps)
	w := writer{m.r}
	for range 20000 {
		e := m.any(7)
		s, _ := w.join(w.tokens(e, levelIf))
		if len(s) > api.MaxText {
			continue
		}
		got, at, err := Parse(s)
		if !same(got, e) || at != 0 || err != api.OK {
			t.Fatalf("Parse of %q: %v %d %v, not %v", s, got, at, err, e)
		}
		if !apart(got) {
			t.Fatalf("Parse of %q: nodes share memory", s)
		}
	}
}

// rules is the grammar of texts by tokens: `~` is a `-` directly ahead of a number, and d a digit from 0 to 6, n one above.
func rules() map[string][]string {
	return map[string][]string{
		"E": {"O", "if E then E else E"},
		"O": {"A", "O or A"},
		"A": {"T", "A and T"},
		"T": {"C", "not T"},
		"C": {"S", "S < S", "S <= S"},
		"S": {"P", "S + P", "S - P", "S ~ P"},
		"P": {"G", "P * G", "P / G"},
		"G": {"W", "- G"},
		"W": {"B", "B ^ d", "B ^ - d", "B ^ ~ d"},
		"B": {"d", "n", "~ d", "~ n", "x", "( E )", "der ( x )", "pre ( x )", "abs ( E )", "min ( E , E )", "max ( E , E )"},
	}
}

// item is a part of a rule that has been met, from a token on.
type item struct {
	rule       string
	body       string // what is still to come, by blanks
	from, left int    // left is how many words of it are
}

// earley tells the number of the first token that cannot stand there, len(tokens) if the end is too early, -1 if all is well.
func earley(grammar map[string][]string, tokens []string) int {
	var sets []map[item]bool
	add := func(k int, list *[]item, i item) {
		if !sets[k][i] {
			sets[k][i] = true
			*list = append(*list, i)
		}
	}
	var shifted []item
	for _, body := range grammar["E"] {
		shifted = append(shifted, item{"E", body, 0, len(strings.Fields(body))})
	}
	for k := 0; ; k++ {
		sets = append(sets, map[item]bool{})
		var list []item
		for _, i := range shifted {
			add(k, &list, i)
		}
		shifted = nil
		done := false
		for n := 0; n < len(list); n++ {
			i := list[n]
			if i.left == 0 {
				done = done || i.rule == "E" && i.from == 0
				for j := range sets[i.from] {
					if j.left > 0 && strings.Fields(j.body)[0] == i.rule {
						add(k, &list, item{j.rule, strings.Join(strings.Fields(j.body)[1:], " "), j.from, j.left - 1})
					}
				}
				continue
			}
			first := strings.Fields(i.body)[0]
			for _, body := range grammar[first] {
				add(k, &list, item{first, body, k, len(strings.Fields(body))})
			}
			if k < len(tokens) && tokens[k] == first {
				shifted = append(shifted, item{i.rule, strings.Join(strings.Fields(i.body)[1:], " "), i.from, i.left - 1})
			}
		}
		if k == len(tokens) {
			if done {
				return -1
			}
			return k
		}
		if len(shifted) == 0 {
			return k
		}
	}
}

// TestParseGrammar reads rows of tokens, good and bad, and holds what is told against the grammar.
func TestParseGrammar(t *testing.T) {
	r := rand.New(rand.NewSource(3))
	vocabulary := strings.Fields("if then else or and not < <= + - ~ * / ^ d n x ( ) , der pre abs min max d x x d")
	texts := map[string]string{"~": "-", "d": "2", "n": "7"}
	grammar := rules()
	m := newMaker(4, allOps)
	m.names = []string{"x"}
	m.numbers = func(r *rand.Rand) api.Rat { return q(r.Intn(19)-9, 1) }
	wrong := 0
	for range 8000 {
		tokens := asTokens(writer{r}.tokens(m.any(4), levelIf))
		if len(tokens) > 40 {
			continue
		}
		for range r.Intn(3) {
			i := r.Intn(len(tokens) + 1)
			switch v := vocabulary[r.Intn(len(vocabulary))]; {
			case i == len(tokens) || r.Intn(3) == 0:
				tokens = append(tokens[:i:i], append([]string{v}, tokens[i:]...)...)
			case r.Intn(2) == 0:
				tokens[i] = v
			default:
				tokens = append(tokens[:i:i], tokens[i+1:]...)
			}
		}
		// A `~` stands only ahead of a number, and a `-` is apart from one.
		for i := range tokens {
			ahead := i+1 < len(tokens) && (tokens[i+1] == "d" || tokens[i+1] == "n")
			if tokens[i] == "~" && !ahead {
				tokens[i] = "-"
			}
		}
		s, at := "", []int{}
		for i, v := range tokens {
			if i > 0 && tokens[i-1] != "~" {
				s += " "
			}
			at = append(at, len(s))
			if text, ok := texts[v]; ok {
				v = text
			}
			s += v
		}
		at = append(at, len(s))
		bad := earley(grammar, tokens)
		_, got, err := Parse(s)
		if bad < 0 {
			if err == api.ErrSyntax {
				t.Fatalf("Parse of %q: ErrSyntax at %d", s, got)
			}
			continue
		}
		wrong++
		if err != api.ErrSyntax || got != at[bad] {
			t.Fatalf("Parse of %q: %v at %d, not ErrSyntax at %d", s, err, got, at[bad])
		}
	}
	if wrong < 2000 {
		t.Errorf("only %d texts were wrong", wrong)
	}
}

// asTokens are tokens as the grammar has them.
func asTokens(l []string) []string {
	var out []string
	for _, s := range l {
		if len(s) > 1 && s[0] == '-' {
			out = append(out, "~")
			s = s[1:]
		}
		switch {
		case "0" <= s && s <= "6":
			s = "d"
		case "7" <= s && s <= "9":
			s = "n"
		}
		out = append(out, s)
	}
	return out
}

// TestParseCut cuts texts and puts into them what cannot stand anywhere.
func TestParseCut(t *testing.T) {
	m := newMaker(5, allOps)
	w := writer{m.r}
	for range 3000 {
		s, at := w.join(w.tokens(m.any(5), levelIf))
		if len(s) > api.MaxText-1 {
			continue
		}
		p := at[m.r.Intn(len(at))]
		if _, got, err := Parse(s[:p] + "#" + s[p:]); err != api.ErrSyntax || got != p {
			t.Fatalf("Parse of %q with # at %d: %v at %d", s, p, err, got)
		}
		if _, got, err := Parse(s[:p]); err == api.ErrSyntax && got != p {
			t.Fatalf("Parse of %q: ErrSyntax at %d", s[:p], got)
		}
	}
}
