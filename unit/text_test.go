package unit

import (
	"math/big"
	"math/rand"
	"regexp"
	"strings"
	"testing"

	"isocline/api"
)

func TestParse(t *testing.T) {
	all := of1(1, 1, 1, 1, 1, 1, 1)
	for _, c := range []struct {
		s    string
		want api.Unit
	}{
		{"1", of1()},
		{"1 1", of1()},
		{"2 1", withF(q(2, 1))},
		{"m", of1(1)},
		{"m1", of1(1)},
		{"m-1", of1(-1)},
		{"m9", of1(9)},
		{"m-9", of1(-9)},
		{"1/m", of1(-1)},
		{"1/m-1", of1(1)},
		{"1/m.s2", of1(-1, 0, -2)},
		{"m/s", of1(1, 0, -1)},
		{"m.s/s.m", of1()},
		{"kN.m/s2", withF(q(1000, 1), 2, 1, -4)},
		{"km/h", withF(q(5, 18), 1, 0, -1)},
		{"km2", withF(q(1000000, 1), 2)},
		{"1/km2", withF(q(1, 1000000), -2)},
		{"h-2", withF(q(1, 12960000), 0, 0, -2)},
		{"m.kg.s.A.K.mol.cd", all},
		{"rad/rad", of1()},
		{"1/2 m", withF(q(1, 2), 1)},
		{"2/4 1", withF(q(1, 2))},
		{"1/2 1/m", withF(q(1, 2), -1)},
		{"0.25 km", withF(q(250, 1), 1)},
		{"1.000000000000 m", of1(1)},
		{"99999999999999999999/33333333333333333333 m", withF(q(3, 1), 1)},
		{"1000000000000 m", withF(q(api.MaxNum, 1), 1)},
		{"1/1000000000000 m", withF(q(1, api.MaxNum), 1)},
		// Only what results is asked.
		{"m9.m9/m9", of1(9)},
		{"1/m9.m-9", of1()},
		{"m9.s-9.m9.s-9/m9.s-9", of1(9, 0, -9)},
		{"Gbar/kbar", withF(q(1000000, 1))},
		{"1/1000 Gbar", withF(q(100000000000, 1), -1, 1, -2)},
		{"Gm2/Gm2", of1()},
		{"1000000000000 km/Mm", withF(q(1000000000, 1))},
		{"Gbar9/Gbar9", of1()},
		{strings.Repeat("Gbar9.Gbar-9.", 46) + "m", of1(1)},
		{"10 Mbar", withF(q(api.MaxNum, 1), -1, 1, -2)},
		{"m" + strings.Repeat(".rad", 149) + "/s3", of1(1, 0, -3)}, // of MaxText bytes
	} {
		u, e := Parse(c.s)
		check(t, answer[api.Unit]{"Parse of " + c.s, u, e, c.want, api.OK})
	}
}

func TestParseErrors(t *testing.T) {
	for _, c := range []struct {
		err api.Errno
		l   []string
	}{
		{api.ErrSyntax, []string{"", " ", "1/2", "0 m", "-1 m", "2", "0", "-1", "1/", "/", "/m", "m/", "m/1", "1/1", "1/m/s", "m/s/s", "1.m", "m.1", "m.", ".m", "m..s", ".",
			"m0", "m00", "m10", "m-", "m-0", "m--1", "m+1", "m^2", "m*s", "2m", "m2s", "m-1s", "m1.5", "m 2", "m s", " m", "m ", "1 ", "1  m", "2 m ", "2 m s", "2\tm", "m\n", "m/ s", "m /s",
			"1/m 2", "a m", "01 m", "+1 m", "1. m", ".5 m", "1/0 m", "0/5 m", "0.0 m", "-0 m", "-0.5 m", "-1/2 m", "1/2/3 m", "1e3 m", "0.1234567890123 m", "100000000000000000000 m",
			"-10000000000000 m", "-99999999999999999999 1", "m\x00", "\xb5m", "\u00b5m", "m\u00b2", "\u0661 m", "m\u0661", "m_s", "1 2", "1/2 3", "1/x1x", "x/2 m", "0 x",
			"10000000000000 m m", "10000000000000", "Gbar.2", "x.y.z/", strings.Repeat("m", 599) + "0"}},
		{api.ErrNone, []string{"x", "mx", "kkg", "mmin/s", "m.x", "m/x", "x/m", "1/x", "m9.m9.x", "2 x", "Gbar.x", "10000000000000 x", "10000000000000 m/x", "m.M", strings.Repeat("m", 600)}},
		{api.ErrLarge, []string{"Gbar", "1/Gbar", "11 Mbar", "1000 Mbar", "10000000000000 m", "1/10000000000000 m", "10000000000000 mm", "1/10000000000000 km", "10000000000000 mm/Gm",
			"m9.m", "m-9/m", "1/m9.m", "m9.m9", "Gm2", "nm2", "1/Gm2", "99999999999999999999 1", "1000000000000 km", "1/1000000000000 mm",
			strings.Repeat("m", 601), strings.Repeat("?", 601), strings.Repeat(" ", 601), "1" + strings.Repeat("0", 600) + " m", strings.Repeat("m.", 299) + "m", strings.Repeat("Gbar9.", 99) + "s",
			strings.Repeat("m.", 1000000) + "?"}},
	} {
		for _, s := range c.l {
			u, e := Parse(s)
			check(t, answer[api.Unit]{"Parse of " + s[:min(len(s), 60)], u, e, api.Unit{}, c.err})
		}
	}
}

// form is that of texts of units, with the parts of the number, the text above and the text below.
const form = `^(?:(?:(0|[1-9][0-9]{0,19})(?:/(0|[1-9][0-9]{0,19})|\.([0-9]{1,12}))?) )?(1|F(?:\.F)*)(?:/(F(?:\.F)*))?$`

// reader reads texts of units by their form.
type reader struct {
	whole, parts *regexp.Regexp
	all          map[string]plain
}

func newReader() reader {
	one := `[a-zA-Z]+(?:-?[1-9])?`
	return reader{regexp.MustCompile(strings.ReplaceAll(form, "F", one)), regexp.MustCompile(`([a-zA-Z]+)(-?)([1-9]?)`), reference()}
}

func bigInt(s string) *big.Int {
	n, _ := new(big.Int).SetString(s, 10)
	return n
}

// number is what the number of a text says; nil where there is no number above 0.
func (r reader) number(whole, bottom, places string) *big.Rat {
	if whole == "" {
		return big.NewRat(1, 1)
	}
	below := big.NewInt(1)
	if bottom != "" {
		below = bigInt(bottom)
	}
	if places != "" {
		below.Exp(big.NewInt(10), big.NewInt(int64(len(places))), nil)
	}
	x := new(big.Rat).SetInt(bigInt(whole + places))
	if below.Sign() == 0 || x.Sign() == 0 {
		return nil
	}
	return x.Quo(x, new(big.Rat).SetInt(below))
}

func (r reader) parse(s string) (api.Unit, api.Errno) {
	if len(s) > api.MaxText {
		return api.Unit{}, api.ErrLarge
	}
	m := r.whole.FindStringSubmatch(s)
	if m == nil {
		return api.Unit{}, api.ErrSyntax
	}
	x := r.number(m[1], m[2], m[3])
	if x == nil {
		return api.Unit{}, api.ErrSyntax
	}
	p := plain{f: x}
	for side, text := range m[4:] {
		for _, f := range r.parts.FindAllStringSubmatch(text, -1) {
			u, ok := r.all[f[1]]
			if !ok {
				return api.Unit{}, api.ErrNone
			}
			n := 1
			if f[3] != "" {
				n = int(f[3][0] - '0')
			}
			if (f[2] == "-") != (side == 1) {
				n = -n
			}
			p = p.times(u, n)
		}
	}
	if _, e := fromBig(x); e != api.OK {
		return api.Unit{}, e
	}
	return p.unit()
}

func (r reader) check(t *testing.T, s string) {
	t.Helper()
	want, err := r.parse(s)
	u, e := Parse(s)
	check(t, answer[api.Unit]{"Parse of " + s, u, e, want, err})
}

// TestAllTexts parses all short texts of some bytes.
func TestAllTexts(t *testing.T) {
	const bytes = "m9s01kx./- "
	r := newReader()
	var each func(s string, left int)
	each = func(s string, left int) {
		r.check(t, s)
		if left == 0 {
			return
		}
		for i := range len(bytes) {
			each(s+bytes[i:i+1], left-1)
		}
	}
	each("", 5)
}

// TestRandomTexts parses texts that are put together of parts, most of them of the right form.
func TestRandomTexts(t *testing.T) {
	r := newReader()
	random := rand.New(rand.NewSource(23))
	pick := func(l ...string) string { return l[random.Intn(len(l))] }
	names := []string{"x", "mmin", "kkg"}
	for name := range r.all {
		names = append(names, name)
	}
	factors := func() string {
		var l []string
		for range random.Intn(5) + 1 {
			name := pick(names...)
			if random.Intn(10) > 0 {
				name = pick("m", "s", "kg", "km", "mol", "h", "Gbar", "nm", "V", "rad", "cd", "mK")
			}
			l = append(l, name+pick("", "", "", "1", "2", "3", "-1", "-2", "9", "-9"))
		}
		return strings.Join(l, ".")
	}
	for range 30000 {
		s := pick("", "", "", "1 ", "1/2 ", "0.25 ", "1000000000000 ", "10000000000000 ", "1/1000000000000 ", "3600 ", "0 ", "-1 ") + pick("1", factors(), factors()) + pick("", "/"+factors())
		if random.Intn(20) == 0 {
			i := random.Intn(len(s))
			s = s[:i] + pick("", ".", "/", " ", "-", "0", "2", "m") + s[i+1:]
		}
		r.check(t, s)
	}
}

// TestParseLong parses long texts in which what is in between is large: they are as quick as others.
func TestParseLong(t *testing.T) {
	r := newReader()
	for _, part := range []string{"h9.Gbar-9.", "h9.nm-9.", "m9.", "Gbar9.", "h-9.min9.Gg9.", "rad."} {
		for _, last := range []string{"m", "m0", "x", "s9"} {
			n := (api.MaxText - 2) / len(part)
			s := strings.Repeat(part, n/2) + last + "/" + strings.Repeat(part, n-n/2-1) + last
			for range 10 {
				r.check(t, s)
			}
		}
	}
}

func TestPrint(t *testing.T) {
	for _, c := range []struct {
		u    api.Unit
		want string
		err  api.Errno
	}{
		{of1(), "1", api.OK},
		{withF(q(2, 1)), "2 1", api.OK},
		{withF(q(1, 2)), "1/2 1", api.OK},
		{of1(1), "m", api.OK},
		{of1(2), "m2", api.OK},
		{of1(-1), "1/m", api.OK},
		{of1(-2), "1/m2", api.OK},
		{withF(q(3, 7), -1), "3/7 1/m", api.OK},
		{withF(q(5, 18), 1, 0, -1), "5/18 m/s", api.OK},
		{withF(q(1000, 1), 2, 1, -4), "1000 m2.kg/s4", api.OK},
		{of1(1, 1, 1, 1, 1, 1, 1), "m.kg.s.A.K.mol.cd", api.OK},
		{of1(-1, -1, -1, -1, -1, -1, -1), "1/m.kg.s.A.K.mol.cd", api.OK},
		{of1(-1, 2, -3, 4, -5, 6, -7), "kg2.A4.mol6/m.s3.K5.cd7", api.OK},
		{withF(q(999999999961, 999999999989), 9, -9, 9, -9, 9, -9, 9), "999999999961/999999999989 m9.s9.K9.cd9/kg9.A9.mol9", api.OK},
		{api.Unit{}, "", api.ErrArg},
		{withF(q(-1, 1), 1), "", api.ErrArg},
		{of1(10), "", api.ErrArg},
	} {
		s, e := Print(c.u)
		check(t, answer[string]{"Print", s, e, c.want, c.err})
	}
}

func TestPrintParsed(t *testing.T) {
	r := rand.New(rand.NewSource(24))
	for range 20000 {
		u := random(r, 9)
		s, e := Print(u)
		if e != api.OK {
			t.Fatalf("Print of %v: %v", u, e)
		}
		v, e := Parse(s)
		check(t, answer[api.Unit]{"Parse of " + s, v, e, u, api.OK})
	}
}
