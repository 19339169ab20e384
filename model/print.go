package model

import (
	"strconv"
	"strings"

	"isocline/api"
	"isocline/expr"
)

// kindWords are the words by the Kind of classes.
func kindWords() [3]string {
	return [3]string{api.KModel: "model", api.KPort: "port", api.KPartial: "partial"}
}

// scopeWords are the words by the Scope of components, empty for none.
func scopeWords() [3]string {
	return [3]string{api.OInner: "inner", api.OOuter: "outer"}
}

// varWords are the words by the Var of components, empty for none.
func varWords() [3]string {
	return [3]string{api.VParam: "parameter", api.VDisc: "discrete"}
}

// Print returns the text of classes: ErrLarge if it, or that of an expression, is too long.
func Print(l []api.Class) (string, api.Errno) {
	if err := ValidateAll(l); err != api.OK {
		return "", err
	}
	w := &writer{}
	for i, c := range l {
		if i > 0 {
			w.put("\n")
		}
		w.class(c)
		if w.long || w.Len() > api.MaxSource {
			return "", api.ErrLarge
		}
	}
	return w.String(), api.OK
}

// writer writes the text of valid classes.
type writer struct {
	strings.Builder
	long bool // the text of an expression is too long
}

func (w *writer) put(texts ...string) {
	for _, s := range texts {
		w.WriteString(s)
	}
}

// ahead writes a word with a blank behind it, if there is one.
func (w *writer) ahead(word string) {
	if word != "" {
		w.put(word, " ")
	}
}

// expression writes what stands ahead of the text of an expression, and that.
func (w *writer) expression(ahead string, e api.Expr) {
	s, _ := expr.Print(e) // a valid expression has a text
	w.long = w.long || len(s) > api.MaxText
	w.put(ahead, s)
}

func (w *writer) class(c api.Class) {
	w.put(kindWords()[c.Kind], " ", c.Name, "\n")
	for _, b := range c.Bases {
		w.put("extends ", b.Name)
		w.mods(b.Mods)
		w.put("\n")
	}
	for _, k := range c.Comps {
		w.comp(k)
	}
	for _, q := range c.Eqs {
		w.equation(q)
	}
	for _, k := range c.Links {
		w.put("connect ", k.A, " ", k.B, "\n")
	}
	for _, x := range c.Whens {
		w.when(x)
	}
	w.put("end ", c.Name, "\n")
}

func (w *writer) mods(l []api.Mod) {
	if len(l) == 0 {
		return
	}
	between := "("
	for _, m := range l {
		w.put(between, m.Path)
		if m.Type != "" {
			w.put(" is ", m.Type)
		} else {
			w.expression(" = ", m.Value)
		}
		between = ", "
	}
	w.put(")")
}

func (w *writer) comp(k api.Comp) {
	w.ahead(scopeWords()[k.Scope])
	if k.Replace {
		w.ahead("replaceable")
	}
	if k.Flow {
		w.ahead("flow")
	}
	w.ahead(varWords()[k.Var])
	w.put(k.Type, " ", k.Name)
	if k.Size > 0 {
		w.put("[", strconv.Itoa(k.Size), "]")
	}
	w.mods(k.Mods)
	if !isZero(k.Value) {
		w.expression(" = ", k.Value)
	}
	if k.Unit != "" {
		w.put(" in ", k.Unit)
	}
	if !isZero(k.Cond) {
		w.expression(" when ", k.Cond)
	}
	w.put("\n")
}

func (w *writer) equation(q api.Eq) {
	word := "equation "
	if q.Init {
		word = "initial "
	}
	w.expression(word, q.L)
	w.expression(" = ", q.R)
	w.put("\n")
}

func (w *writer) when(x api.When) {
	w.expression("when ", x.C)
	w.put("\n")
	for _, s := range x.Sets {
		w.put("set ", s.Name)
		w.expression(" = ", s.E)
		w.put("\n")
	}
	w.put("end when\n")
}
