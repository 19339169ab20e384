package unit

import (
	"math/big"
	"slices"
	"strings"
	"testing"

	"isocline/api"
)

// reference is all names, those with prefixes too, made from what the document says of them.
func reference() map[string]plain {
	all := map[string]plain{"rad": {f: big.NewRat(1, 1)}}
	bases := []string{"m", "kg", "s", "A", "K", "mol", "cd"}
	for i, name := range bases {
		p := plain{f: big.NewRat(1, 1)}
		p.e[i] = 1
		all[name] = p
	}
	define := func(name string, n, d int64, top, bottom string) {
		p := plain{f: big.NewRat(n, d)}
		for _, x := range strings.Fields(top) {
			p = p.times(all[x], 1)
		}
		for _, x := range strings.Fields(bottom) {
			p = p.times(all[x], -1)
		}
		all[name] = p
	}
	define("g", 1, 1000, "kg", "")
	define("Hz", 1, 1, "", "s")
	define("N", 1, 1, "kg m", "s s")
	define("Pa", 1, 1, "N", "m m")
	define("J", 1, 1, "N m", "")
	define("W", 1, 1, "J", "s")
	define("C", 1, 1, "A s", "")
	define("V", 1, 1, "W", "A")
	define("Ohm", 1, 1, "V", "A")
	define("S", 1, 1, "A", "V")
	define("F", 1, 1, "C", "V")
	define("Wb", 1, 1, "V s", "")
	define("H", 1, 1, "Wb", "A")
	define("min", 60, 1, "s", "")
	define("h", 3600, 1, "s", "")
	define("L", 1, 1000, "m m m", "")
	define("bar", 100000, 1, "Pa", "")
	prefixed := map[string]plain{}
	for letter, by := range map[string]*big.Rat{"n": big.NewRat(1, 1e9), "u": big.NewRat(1, 1e6), "m": big.NewRat(1, 1e3),
		"k": big.NewRat(1e3, 1), "M": big.NewRat(1e6, 1), "G": big.NewRat(1e9, 1)} {
		for name, p := range all {
			if !slices.Contains([]string{"kg", "min", "h", "rad"}, name) {
				prefixed[letter+name] = plain{p.e, new(big.Rat).Mul(p.f, by)}
			}
		}
	}
	for name, p := range prefixed {
		if _, ok := all[name]; !ok { // a name of the table goes first
			all[name] = p
		}
	}
	return all
}

func checkName(t *testing.T, all map[string]plain, s string) {
	t.Helper()
	want, err := api.Unit{}, api.ErrNone
	if p, ok := all[s]; ok {
		want, err = p.unit()
	}
	u, e := Name(s)
	check(t, answer[api.Unit]{"Name of " + s, u, e, want, err})
}

func TestName(t *testing.T) {
	for _, c := range []struct {
		s    string
		want api.Unit
		err  api.Errno
	}{
		{"m", of1(1), api.OK},
		{"kg", of1(0, 1), api.OK},
		{"s", of1(0, 0, 1), api.OK},
		{"A", of1(0, 0, 0, 1), api.OK},
		{"K", of1(0, 0, 0, 0, 1), api.OK},
		{"mol", of1(0, 0, 0, 0, 0, 1), api.OK},
		{"cd", of1(0, 0, 0, 0, 0, 0, 1), api.OK},
		{"g", withF(q(1, 1000), 0, 1), api.OK},
		{"Hz", of1(0, 0, -1), api.OK},
		{"N", of1(1, 1, -2), api.OK},
		{"Pa", of1(-1, 1, -2), api.OK},
		{"J", of1(2, 1, -2), api.OK},
		{"W", of1(2, 1, -3), api.OK},
		{"C", of1(0, 0, 1, 1), api.OK},
		{"V", of1(2, 1, -3, -1), api.OK},
		{"Ohm", of1(2, 1, -3, -2), api.OK},
		{"S", of1(-2, -1, 3, 2), api.OK},
		{"F", of1(-2, -1, 4, 2), api.OK},
		{"Wb", of1(2, 1, -2, -1), api.OK},
		{"H", of1(2, 1, -2, -2), api.OK},
		{"min", withF(q(60, 1), 0, 0, 1), api.OK},
		{"h", withF(q(3600, 1), 0, 0, 1), api.OK},
		{"L", withF(q(1, 1000), 3), api.OK},
		{"bar", withF(q(100000, 1), -1, 1, -2), api.OK},
		{"rad", of1(), api.OK},

		{"mN", withF(q(1, 1000), 1, 1, -2), api.OK},
		{"nm", withF(q(1, 1000000000), 1), api.OK},
		{"um", withF(q(1, 1000000), 1), api.OK},
		{"mm", withF(q(1, 1000), 1), api.OK},
		{"km", withF(q(1000, 1), 1), api.OK},
		{"Mm", withF(q(1000000, 1), 1), api.OK},
		{"Gm", withF(q(1000000000, 1), 1), api.OK},
		{"ng", withF(q(1, api.MaxNum), 0, 1), api.OK},
		{"nL", withF(q(1, api.MaxNum), 3), api.OK},
		{"Gg", withF(q(1000000, 1), 0, 1), api.OK},
		{"mmol", withF(q(1, 1000), 0, 0, 0, 0, 0, 1), api.OK},
		{"Mbar", withF(q(100000000000, 1), -1, 1, -2), api.OK},
		{"Gbar", api.Unit{}, api.ErrLarge},

		{"kkg", api.Unit{}, api.ErrNone},
		{"mmin", api.Unit{}, api.ErrNone},
		{"kh", api.Unit{}, api.ErrNone},
		{"mrad", api.Unit{}, api.ErrNone},
		{"kkm", api.Unit{}, api.ErrNone},
		{"Mkg", api.Unit{}, api.ErrNone},
		{"", api.Unit{}, api.ErrNone},
		{"k", api.Unit{}, api.ErrNone},
		{"u", api.Unit{}, api.ErrNone},
		{"M", api.Unit{}, api.ErrNone},
		{"T", api.Unit{}, api.ErrNone},
		{"Tm", api.Unit{}, api.ErrNone},
		{"ohm", api.Unit{}, api.ErrNone},
		{"Kg", api.Unit{}, api.ErrNone},
		{"m2", api.Unit{}, api.ErrNone},
		{"m ", api.Unit{}, api.ErrNone},
		{" m", api.Unit{}, api.ErrNone},
		{"1", api.Unit{}, api.ErrNone},
		{"m.s", api.Unit{}, api.ErrNone},
		{"\xb5m", api.Unit{}, api.ErrNone},
		{"\u00b5m", api.Unit{}, api.ErrNone},
		{"m\x00", api.Unit{}, api.ErrNone},
		{strings.Repeat("m", 1000000), api.Unit{}, api.ErrNone},
	} {
		u, e := Name(c.s)
		check(t, answer[api.Unit]{"Name of " + c.s[:min(len(c.s), 20)], u, e, c.want, c.err})
	}
}

// TestAllNames asks all texts of up to three letters, and all pairs of names.
func TestAllNames(t *testing.T) {
	all := reference()
	if len(all) != 25+6*21-1 { // kg is g with a prefix, too
		t.Errorf("%d names", len(all))
	}
	letters := strings.Split("abcdefghijklmnopqrstuvwxyzABCDEFGHIJKLMNOPQRSTUVWXYZ", "")
	for _, a := range letters {
		checkName(t, all, a)
		for _, b := range letters {
			checkName(t, all, a+b)
			for _, c := range letters {
				checkName(t, all, a+b+c)
			}
		}
	}
	for name := range all {
		for other := range all {
			checkName(t, all, name+other)
		}
		checkName(t, all, name)
		checkName(t, all, strings.ToUpper(name))
		checkName(t, all, strings.ToLower(name))
	}
}
