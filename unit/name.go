package unit

import "isocline/api"

// baseNames are the names of the base units, in the order of the exponents.
var baseNames = [7]string{"m", "kg", "s", "A", "K", "mol", "cd"}

// names are the names of the table with their units.
type names map[string]api.Unit

// table returns all names, with the exponents of m, kg, s, A, K, mol, cd.
func table() names {
	one := api.Rat{N: 1, D: 1}
	return names{
		"m":   {E: [7]int{1}, F: one},
		"kg":  {E: [7]int{0, 1}, F: one},
		"s":   {E: [7]int{0, 0, 1}, F: one},
		"A":   {E: [7]int{0, 0, 0, 1}, F: one},
		"K":   {E: [7]int{0, 0, 0, 0, 1}, F: one},
		"mol": {E: [7]int{0, 0, 0, 0, 0, 1}, F: one},
		"cd":  {E: [7]int{0, 0, 0, 0, 0, 0, 1}, F: one},
		"g":   {E: [7]int{0, 1}, F: api.Rat{N: 1, D: 1000}},
		"Hz":  {E: [7]int{0, 0, -1}, F: one},
		"N":   {E: [7]int{1, 1, -2}, F: one},
		"Pa":  {E: [7]int{-1, 1, -2}, F: one},
		"J":   {E: [7]int{2, 1, -2}, F: one},
		"W":   {E: [7]int{2, 1, -3}, F: one},
		"C":   {E: [7]int{0, 0, 1, 1}, F: one},
		"V":   {E: [7]int{2, 1, -3, -1}, F: one},
		"Ohm": {E: [7]int{2, 1, -3, -2}, F: one},
		"S":   {E: [7]int{-2, -1, 3, 2}, F: one},
		"F":   {E: [7]int{-2, -1, 4, 2}, F: one},
		"Wb":  {E: [7]int{2, 1, -2, -1}, F: one},
		"H":   {E: [7]int{2, 1, -2, -2}, F: one},
		"min": {E: [7]int{0, 0, 1}, F: api.Rat{N: 60, D: 1}},
		"h":   {E: [7]int{0, 0, 1}, F: api.Rat{N: 3600, D: 1}},
		"L":   {E: [7]int{3}, F: api.Rat{N: 1, D: 1000}},
		"bar": {E: [7]int{-1, 1, -2}, F: api.Rat{N: 100000, D: 1}},
		"rad": {F: one},
	}
}

// bare reports whether no prefix may stand ahead of a name of the table.
func bare(name string) bool {
	switch name {
	case "kg", "min", "h", "rad":
		return true
	}
	return false
}

// prefix returns what a letter multiplies a unit by, and whether it is a prefix.
func prefix(letter byte) (api.Rat, bool) {
	switch letter {
	case 'n':
		return api.Rat{N: 1, D: 1000000000}, true
	case 'u':
		return api.Rat{N: 1, D: 1000000}, true
	case 'm':
		return api.Rat{N: 1, D: 1000}, true
	case 'k':
		return api.Rat{N: 1000, D: 1}, true
	case 'M':
		return api.Rat{N: 1000000, D: 1}, true
	case 'G':
		return api.Rat{N: 1000000000, D: 1}, true
	}
	return api.Rat{}, false
}

// find returns what a name says, with or without a prefix, and whether it is a name.
func (t names) find(s string) (measure, bool) {
	if u, ok := t[s]; ok {
		return of(u), true
	}
	if s == "" {
		return measure{}, false
	}
	by, ok := prefix(s[0])
	u, okToo := t[s[1:]]
	if !ok || !okToo || bare(s[1:]) {
		return measure{}, false
	}
	return number(by).times(of(u)), true
}

// Name returns the unit of a name: ErrNone if it is none, ErrLarge if its factor is not representable.
func Name(s string) (api.Unit, api.Errno) {
	m, ok := table().find(s)
	if !ok {
		return api.Unit{}, api.ErrNone
	}
	return m.unit()
}
