package model

import (
	"slices"
	"strings"

	"isocline/api"
	"isocline/expr"
)

// reader reads a line from the left. Once it has met a trouble it is at the end of the line, where all that reads on fails, too.
type reader struct {
	s   string
	at  int       // where that begins which is not read yet
	err api.Errno // the first trouble
}

// newReader returns the reader of a line without the blanks at both ends.
func newReader(line string) reader {
	return reader{s: strings.Trim(line, " ")}
}

func (r *reader) rest() string {
	return r.s[r.at:]
}

func (r *reader) fail(err api.Errno) {
	if r.err == api.OK {
		r.err = err
	}
	r.at = len(r.s)
}

// must fails where something is not as described.
func (r *reader) must(is bool) {
	if !is {
		r.fail(api.ErrSyntax)
	}
}

// blanks passes over blanks, and reports whether there are any.
func (r *reader) blanks() bool {
	from := r.at
	for r.at < len(r.s) && r.s[r.at] == ' ' {
		r.at++
	}
	return r.at > from
}

// take passes over a text, and reports whether it stands here.
func (r *reader) take(s string) bool {
	is := strings.HasPrefix(r.rest(), s)
	if is {
		r.at += len(s)
	}
	return is
}

// ahead passes over a word with blanks behind it, and reports whether it stands here.
func (r *reader) ahead(word string) bool {
	from := r.at
	if r.take(word) && r.blanks() {
		return true
	}
	r.at = from
	return false
}

// between passes over a word with blanks at both sides, and reports whether it stands here.
func (r *reader) between(word string) bool {
	from := r.at
	if r.blanks() && r.ahead(word) {
		return true
	}
	r.at = from
	return false
}

// option passes over one of some words, the first of which is empty, and returns its number, that of the empty one if there is none.
func (r *reader) option(words [3]string) int {
	for i, word := range words {
		if word != "" && r.ahead(word) {
			return i
		}
	}
	return 0
}

// until passes over all that stands ahead of the first one of some bytes, and returns it.
func (r *reader) until(ends string) string {
	s := r.rest()
	if end := strings.IndexAny(s, ends); end >= 0 {
		s = s[:end]
	}
	r.at += len(s)
	return s
}

// text reads what ends at a blank or at one of some bytes, and has to be as asked.
func (r *reader) text(ends string, is func(string) bool) string {
	s := r.until(" " + ends)
	r.must(is(s))
	return s
}

// upTo passes over all that stands ahead of the first one of some texts that is not within parentheses, and returns it without the blanks behind it.
func (r *reader) upTo(ends ...string) string {
	begins := func(end string) bool { return strings.HasPrefix(r.rest(), end) }
	from := r.at
	for depth := 0; r.at < len(r.s); r.at++ {
		if depth <= 0 && slices.ContainsFunc(ends, begins) {
			break
		}
		switch r.s[r.at] {
		case '(':
			depth++
		case ')':
			depth--
		}
	}
	return strings.TrimRight(r.s[from:r.at], " ")
}

// expression reads the text of an expression up to the first one of some texts that is not within parentheses.
func (r *reader) expression(ends ...string) api.Expr {
	e, _, err := expr.Parse(r.upTo(ends...))
	if err != api.OK {
		r.fail(err)
	}
	return e
}

// size reads a number in brackets, 0 if there is none.
func (r *reader) size() int {
	if !r.take("[") {
		return 0
	}
	n, ok := number(r.until("]"))
	r.must(ok && r.take("]"))
	return n
}

// mods reads the modifiers in parentheses, if there are any.
func (r *reader) mods() []api.Mod {
	from := r.at
	r.blanks()
	if !r.take("(") {
		r.at = from
		return nil
	}
	r.blanks()
	l := []api.Mod{r.mod()}
	for r.take(",") {
		r.must(r.blanks())
		l = append(l, r.mod())
	}
	r.must(r.take(")"))
	return l
}

// mod reads one modifier, and the blanks behind it.
func (r *reader) mod() api.Mod {
	m := api.Mod{Path: r.text(",)", isPath)}
	switch {
	case r.between("is"):
		m.Type = r.text(",)", isClassName)
	case r.between("="):
		m.Value = r.expression(",", ")")
	default:
		r.must(false)
	}
	r.blanks()
	return m
}

// comp reads the line of a component.
func (r *reader) comp() api.Comp {
	k := api.Comp{}
	k.Scope = r.option(scopeWords())
	k.Replace = r.ahead("replaceable")
	k.Flow = r.ahead("flow")
	k.Var = r.option(varWords())
	k.Type = r.text("", isType)
	r.must(r.blanks())
	k.Name = r.text("[(", isSimple)
	k.Size = r.size()
	k.Mods = r.mods()
	if r.between("=") {
		k.Value = r.expression(" in ", " when ")
	}
	if r.between("in") {
		k.Unit = r.upTo(" when ")
		r.must(isUnit(k.Unit))
	}
	if r.between("when") {
		k.Cond = r.expression()
	}
	return k
}
