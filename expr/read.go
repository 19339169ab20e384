package expr

import (
	"strings"

	"isocline/api"
	"isocline/rat"
)

// Parse returns the expression of a text; with ErrSyntax, the byte at which the first token begins that cannot stand there.
func Parse(s string) (api.Expr, int, api.Errno) {
	if len(s) > api.MaxText {
		return api.Expr{}, 0, api.ErrLarge
	}
	r := newReader(s)
	e := r.whole()
	if r.token() != "" {
		r.fail()
	}
	if r.bad >= 0 {
		return api.Expr{}, r.bad, api.ErrSyntax
	}
	if err := Validate(e); err != api.OK {
		return api.Expr{}, 0, err
	}
	return e, 0, api.OK
}

// level has the operators that stand between operands of one level, and what they make of them.
type level map[string]func(left, right api.Expr) api.Expr

// reader reads a text from the left. Once it has failed it is at the end of the text, where all that reads on ends, too.
type reader struct {
	s          string
	at         int                        // where that begins which is not read yet
	bad        int                        // where the first token begins that cannot stand there, -1 if there is none
	whole      func() api.Expr            // reads what may be an `if`
	comparison func() api.Expr            // reads what may be compared, and what binds closer
	starts     map[string]func() api.Expr // what reads an operand behind the token with which it begins
}

// newReader returns the reader of a text. Each level reads its operands with the next one.
func newReader(s string) *reader {
	r := &reader{s: s, bad: -1}
	product := r.chain(r.sign, level{"*": binary(api.EMul), "/": binary(api.EDiv)})
	sum := r.chain(product, level{"+": binary(api.EAdd), "-": binary(api.ESub)})
	r.comparison = r.pair(sum, level{"<": binary(api.ELess), "<=": binary(api.ELeq)})
	and := r.chain(r.not, level{"and": binary(api.EAnd)})
	or := r.chain(and, level{"or": binary(api.EOr)})
	r.whole = func() api.Expr {
		if r.take("if") {
			return r.choice()
		}
		return or()
	}
	r.starts = map[string]func() api.Expr{
		"(":   r.group,
		"der": func() api.Expr { return r.named(api.EDer) },
		"pre": func() api.Expr { return r.named(api.EPre) },
		"abs": func() api.Expr { return r.call(api.EAbs) },
		"min": func() api.Expr { return r.call(api.EMin) },
		"max": func() api.Expr { return r.call(api.EMax) },
	}
	return r
}

func binary(op int) func(left, right api.Expr) api.Expr {
	return func(left, right api.Expr) api.Expr {
		return api.Expr{Op: op, Kids: []api.Expr{left, right}}
	}
}

// chain returns what reads operands with operators between them, and groups them from the left.
func (r *reader) chain(operand func() api.Expr, operators level) func() api.Expr {
	return func() api.Expr {
		e := operand()
		for {
			join, ok := operators[r.token()]
			if !ok {
				return e
			}
			r.next()
			right := operand()
			e = join(e, right)
		}
	}
}

// pair returns what reads one operand, or two with an operator between them, which does not chain.
func (r *reader) pair(operand func() api.Expr, operators level) func() api.Expr {
	return func() api.Expr {
		left := operand()
		join, ok := operators[r.token()]
		if !ok {
			return left
		}
		r.next()
		right := operand()
		return join(left, right)
	}
}

// choice reads what stands behind `if`.
func (r *reader) choice() api.Expr {
	kids := []api.Expr{r.whole()}
	for _, word := range []string{"then", "else"} {
		r.expect(word)
		kids = append(kids, r.whole())
	}
	return api.Expr{Op: api.EIf, Kids: kids}
}

func (r *reader) not() api.Expr {
	if r.take("not") {
		return api.Expr{Op: api.ENot, Kids: []api.Expr{r.not()}}
	}
	return r.comparison()
}

// sign reads an operand of products: a `-` directly ahead of a number is left to be read with it.
func (r *reader) sign() api.Expr {
	if r.token() != "-" || r.negative() != "" {
		return r.power()
	}
	r.next()
	return api.Expr{Op: api.ENeg, Kids: []api.Expr{r.sign()}}
}

func (r *reader) power() api.Expr {
	e := r.operand()
	if !r.take("^") {
		return e
	}
	sign := 1
	if r.take("-") {
		sign = -1
	}
	r.skipBlanks()
	if r.at == len(r.s) || r.s[r.at] < '0' || r.s[r.at] > '0'+maxPower {
		r.fail()
		return e
	}
	n := sign * int(r.s[r.at]-'0') // one byte, whatever follows
	r.at++
	return api.Expr{Op: api.EPow, N: api.Rat{N: n, D: 1}, Kids: []api.Expr{e}}
}

// operand reads what binds closest.
func (r *reader) operand() api.Expr {
	t := r.token()
	if start, ok := r.starts[t]; ok {
		r.next()
		return start()
	}
	if isName(t) {
		r.next()
		return api.Expr{Op: api.EName, Name: t}
	}
	number, minus := strings.CutPrefix(t+r.negative(), "-")
	x, err := rat.Parse(number)
	if err != api.OK {
		r.fail()
		return api.Expr{}
	}
	r.at += len(number)
	if minus {
		r.at++
		x.N = -x.N
	}
	return api.Expr{Op: api.EConst, N: x}
}

// group reads what stands behind `(`.
func (r *reader) group() api.Expr {
	e := r.whole()
	r.expect(")")
	return e
}

// named reads what stands behind `der` or `pre`.
func (r *reader) named(op int) api.Expr {
	r.expect("(")
	name := r.token()
	if !isName(name) {
		r.fail()
		return api.Expr{}
	}
	r.next()
	r.expect(")")
	return api.Expr{Op: op, Name: name}
}

// call reads what stands behind the word of an Op, with as many kids as it has.
func (r *reader) call(op int) api.Expr {
	r.expect("(")
	kids := []api.Expr{r.whole()}
	for len(kids) < kidCount[op] {
		r.expect(",")
		kids = append(kids, r.whole())
	}
	r.expect(")")
	return api.Expr{Op: op, Kids: kids}
}
