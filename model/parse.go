package model

import (
	"slices"
	"strings"

	"isocline/api"
)

// Where a line stands.
const (
	outside = iota // of all classes
	head           // of a class, where bases may stand
	body           // of a class, behind its bases
	inWhen
)

// parser reads the lines of classes, each one by its reader.
type parser struct {
	reader
	place   int // where the next line stands
	classes []api.Class
}

// Parse returns the classes of a text; with an error, the number of the line that has it, 0 if none has.
func Parse(s string) ([]api.Class, int, api.Errno) {
	if len(s) > api.MaxSource {
		return nil, 0, api.ErrLarge
	}
	p := &parser{}
	line := 0
	for text := range strings.Lines(s) {
		line++
		p.reader = newReader(strings.TrimSuffix(text, "\n"))
		p.line()
		if p.err != api.OK {
			return nil, line, p.err
		}
	}
	if p.place != outside {
		return nil, line, api.ErrSyntax
	}
	if err := ValidateAll(p.classes); err != api.OK {
		return nil, 0, err
	}
	return p.classes, 0, api.OK
}

// line reads a line, if it is not to be passed over.
func (p *parser) line() {
	if p.s == "" || p.s[0] == '#' {
		return
	}
	word := p.until(" ")
	read, ok := kinds(p.place)[word]
	switch {
	case ok:
		p.must(p.blanks())
		read(p, word)
	case p.place == head, p.place == body:
		p.at = 0
		p.component()
	default:
		p.must(false)
	}
	p.must(p.at == len(p.s))
}

// lines are what reads each kind of lines, by the words with which they begin.
type lines map[string]func(p *parser, word string)

// kinds are the kinds of lines that may stand at a place, but for components.
func kinds(place int) lines {
	switch place {
	case outside:
		return lines{"model": (*parser).first, "port": (*parser).first, "partial": (*parser).first}
	case inWhen:
		return lines{"set": (*parser).set, "end": (*parser).endWhen}
	}
	l := lines{
		"equation": (*parser).equation,
		"initial":  (*parser).equation,
		"connect":  (*parser).connect,
		"when":     (*parser).when,
		"end":      (*parser).end,
	}
	if place == head {
		l["extends"] = (*parser).extends
	}
	return l
}

// class returns the class that is read.
func (p *parser) class() *api.Class {
	return &p.classes[len(p.classes)-1]
}

// first reads the first line of a class.
func (p *parser) first(word string) {
	words := kindWords()
	p.classes = append(p.classes, api.Class{Kind: slices.Index(words[:], word), Name: p.text("", isClassName)})
	p.place = head
}

func (p *parser) extends(string) {
	b := api.Base{Name: p.text("(", isClassName)}
	b.Mods = p.mods()
	c := p.class()
	c.Bases = append(c.Bases, b)
}

func (p *parser) component() {
	c := p.class()
	c.Comps = append(c.Comps, p.comp())
	p.place = body
}

func (p *parser) equation(word string) {
	q := api.Eq{Init: word == "initial"}
	q.L = p.expression(" = ")
	p.must(p.between("="))
	q.R = p.expression()
	c := p.class()
	c.Eqs = append(c.Eqs, q)
	p.place = body
}

func (p *parser) connect(string) {
	k := api.Link{A: p.text("", isEnd)}
	p.must(p.blanks())
	k.B = p.text("", isEnd)
	c := p.class()
	c.Links = append(c.Links, k)
	p.place = body
}

// when reads the first line of a when.
func (p *parser) when(string) {
	c := p.class()
	c.Whens = append(c.Whens, api.When{C: p.expression()})
	p.place = inWhen
}

func (p *parser) set(string) {
	s := api.Set{Name: p.text("", isEnd)}
	p.must(p.between("="))
	s.E = p.expression()
	c := p.class()
	w := &c.Whens[len(c.Whens)-1]
	w.Sets = append(w.Sets, s)
}

// endWhen reads the last line of a when.
func (p *parser) endWhen(string) {
	p.must(p.take("when"))
	p.place = body
}

// end reads the last line of a class.
func (p *parser) end(string) {
	p.must(p.take(p.class().Name))
	p.place = outside
}
