package expr

import (
	"strconv"
	"strings"

	"isocline/api"
	"isocline/rat"
)

// The levels of texts, from the loosest. What is looser than the place where it stands needs parentheses.
const (
	levelIf = iota
	levelOr
	levelAnd
	levelNot
	levelLess
	levelSum
	levelProduct
	levelSign
	levelPower
	levelClosed
)

// operators are the texts of the Ops that stand between two kids.
var operators = [...]string{
	api.EAdd: " + ", api.ESub: " - ", api.EMul: " * ", api.EDiv: " / ",
	api.ELess: " < ", api.ELeq: " <= ", api.EAnd: " and ", api.EOr: " or ",
}

// words are the texts of the Ops whose names or kids stand in parentheses.
var words = [...]string{api.EDer: "der", api.EPre: "pre", api.EAbs: "abs", api.EMin: "min", api.EMax: "max"}

// Print returns the text of an expression.
func Print(e api.Expr) (string, api.Errno) {
	if err := Validate(e); err != api.OK {
		return "", err
	}
	return text(e), api.OK
}

// text returns the text of a valid expression.
func text(e api.Expr) string {
	switch e.Op {
	case api.EConst:
		s, _ := rat.Print(e.N) // a valid number has a text
		return s
	case api.EName, api.EDer, api.EPre:
		return asked(e)
	case api.ENeg:
		return "-(" + text(e.Kids[0]) + ")"
	case api.EAbs, api.EMin, api.EMax:
		return words[e.Op] + "(" + list(e.Kids) + ")"
	case api.ENot:
		return "not " + within(e.Kids[0], levelNot)
	case api.EPow:
		return base(e.Kids[0]) + "^" + strconv.Itoa(e.N.N)
	case api.EIf:
		return "if " + text(e.Kids[0]) + " then " + within(e.Kids[1], levelOr) + " else " + within(e.Kids[2], levelOr)
	}
	at := levelOf(e) // operators of a level group from the left
	return within(e.Kids[0], at) + operators[e.Op] + within(e.Kids[1], at+1)
}

// asked returns the text of an environment that a node asks for.
func asked(e api.Expr) string {
	if e.Op == api.EName {
		return e.Name
	}
	return words[e.Op] + "(" + e.Name + ")"
}

// list returns the texts of kids with commas between them.
func list(kids []api.Expr) string {
	l := make([]string, len(kids))
	for i, k := range kids {
		l[i] = within(k, levelOr)
	}
	return strings.Join(l, ", ")
}

// base returns the text of the kid of EPow.
func base(e api.Expr) string {
	if e.Op == api.EConst && (e.N.N < 0 || e.N.D > 1) {
		return "(" + text(e) + ")"
	}
	return within(e, levelClosed)
}

// within returns the text of a kid that stands where the level is at least this.
func within(e api.Expr, level int) string {
	if levelOf(e) < level {
		return "(" + text(e) + ")"
	}
	return text(e)
}

// levelOf returns the level of the text of e.
func levelOf(e api.Expr) int {
	switch e.Op {
	case api.EIf:
		return levelIf
	case api.EOr:
		return levelOr
	case api.EAnd:
		return levelAnd
	case api.ENot:
		return levelNot
	case api.ELess, api.ELeq:
		return levelLess
	case api.EAdd, api.ESub:
		return levelSum
	case api.EMul, api.EDiv:
		return levelProduct
	case api.ENeg:
		return levelSign
	case api.EPow:
		return levelPower
	}
	return levelClosed
}
