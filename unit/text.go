package unit

import (
	"strconv"
	"strings"

	"isocline/api"
	"isocline/rat"
)

// Parse returns the unit of a text. The whole text is asked for its form, then for its names, then for its size.
func Parse(s string) (api.Unit, api.Errno) {
	if len(s) > api.MaxText {
		return api.Unit{}, api.ErrLarge
	}
	amount, body := split(s)
	x, e := rat.Parse(amount)
	factors, ok := quotient(body)
	if !ok || !isPositive(amount, x, e) {
		return api.Unit{}, api.ErrSyntax
	}
	m, ok := multiply(factors)
	if !ok {
		return api.Unit{}, api.ErrNone
	}
	if e != api.OK {
		return api.Unit{}, e
	}
	return number(x).times(m).unit()
}

// split returns the text of the number ahead of a text of units, that of 1 if there is none, and the rest.
func split(s string) (amount, body string) {
	amount, body, ok := strings.Cut(s, " ")
	if !ok {
		return "1", s
	}
	return amount, body
}

// isPositive reports whether a text, of which rat.Parse returns x and e, is one of a number above 0.
// A number that is too large is not known but by its text.
func isPositive(text string, x api.Rat, e api.Errno) bool {
	if e == api.OK {
		return x.N > 0
	}
	return e == api.ErrLarge && !strings.HasPrefix(text, "-")
}

// factor is a name with its exponent.
type factor struct {
	name  string
	power int
}

// quotient returns the factors of `1` or a product, and of what may stand below it, and whether s is of that form.
func quotient(s string) ([]factor, bool) {
	top, bottom, divided := strings.Cut(s, "/")
	var l []factor
	ok := true
	if top != "1" {
		l, ok = product(nil, top, 1)
	}
	if ok && divided {
		l, ok = product(l, bottom, -1)
	}
	return l, ok
}

// product returns l with the factors of a product behind it, their exponents times sign, and whether s is of that form.
func product(l []factor, s string, sign int) ([]factor, bool) {
	for _, text := range strings.Split(s, ".") {
		f, ok := readFactor(text)
		if !ok {
			return nil, false
		}
		f.power *= sign
		l = append(l, f)
	}
	return l, true
}

// readFactor returns the factor that s is: letters, and an exponent if that is not 1.
func readFactor(s string) (factor, bool) {
	n := 0
	for n < len(s) && isLetter(s[n]) {
		n++
	}
	if n == 0 {
		return factor{}, false
	}
	if n == len(s) {
		return factor{s, 1}, true
	}
	digit, minus := strings.CutPrefix(s[n:], "-")
	if len(digit) != 1 || digit[0] < '1' || digit[0] > '9' {
		return factor{}, false
	}
	power := int(digit[0] - '0')
	if minus {
		power = -power
	}
	return factor{s[:n], power}, true
}

func isLetter(c byte) bool {
	return 'a' <= c && c <= 'z' || 'A' <= c && c <= 'Z'
}

// multiply returns the product of the factors, and whether all their names are names.
func multiply(l []factor) (measure, bool) {
	all := table()
	m := number(api.Rat{N: 1, D: 1})
	for _, f := range l {
		u, ok := all.find(f.name)
		if !ok {
			return measure{}, false
		}
		m = m.times(u.power(f.power))
	}
	return m, true
}

// Print returns the text of a unit.
func Print(u api.Unit) (string, api.Errno) {
	if e := Validate(u); e != api.OK {
		return "", e
	}
	text := side(u.E, 1)
	if text == "" {
		text = "1"
	}
	if below := side(u.E, -1); below != "" {
		text += "/" + below
	}
	if u.F == (api.Rat{N: 1, D: 1}) {
		return text, api.OK
	}
	amount, e := rat.Print(u.F)
	if e != api.OK {
		return "", e
	}
	return amount + " " + text, api.OK
}

// side returns the product of the base units whose exponents times sign are above 0, with these.
func side(e [7]int, sign int) string {
	var l []string
	for i, n := range e {
		n *= sign
		switch {
		case n == 1:
			l = append(l, baseNames[i])
		case n > 1:
			l = append(l, baseNames[i]+strconv.Itoa(n))
		}
	}
	return strings.Join(l, ".")
}
