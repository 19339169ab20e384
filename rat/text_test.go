package rat

import (
	"math/rand"
	"strings"
	"testing"

	"isocline/api"
)

func TestParse(t *testing.T) {
	for _, c := range []struct {
		s    string
		want api.Rat
		err  api.Errno
	}{
		{"0", q(0, 1), api.OK},
		{"7", q(7, 1), api.OK},
		{"-7", q(-7, 1), api.OK},
		{"6/4", q(3, 2), api.OK},
		{"-6/4", q(-3, 2), api.OK},
		{"0/5", q(0, 1), api.OK},
		{"0.25", q(1, 4), api.OK},
		{"-0.25", q(-1, 4), api.OK},
		{"0.0", q(0, 1), api.OK},
		{"12.50", q(25, 2), api.OK},
		{"1.000000000000", q(1, 1), api.OK},
		{"0.000000000001", q(1, api.MaxNum), api.OK},
		{"1000000000000", q(api.MaxNum, 1), api.OK},
		{"-1000000000000", q(-api.MaxNum, 1), api.OK},
		{"1/1000000000000", q(1, api.MaxNum), api.OK},
		{"99999999999999999999/33333333333333333333", q(3, 1), api.OK},
		{"-18446744073709551616/9223372036854775808", q(-2, 1), api.OK},
	} {
		if x, e := Parse(c.s); x != c.want || e != c.err {
			t.Errorf("Parse of %q: %v %v", c.s, x, e)
		}
	}
}

func TestParseErrors(t *testing.T) {
	for _, s := range []string{"1000000000001", "-1000000000001", "1/1000000000001", "99999999999999999999", "18446744073709551617", "9223372036854775808",
		"1000000000000.5", "12345678901234567890.123456789012", "10000000000000000001/10000000000000000000"} {
		if x, e := Parse(s); x != (api.Rat{}) || e != api.ErrLarge {
			t.Errorf("Parse of %q: %v %v", s, x, e)
		}
	}
	for _, s := range []string{"", "-", "+1", "--1", " 1", "1 ", "1\n", "01", "-01", "00", "0x1", "1e3", "a", "1a", "\x00", "1\xff", "٣",
		"-0", "-0.0", "-0/5", "-0.000000000000",
		"1/", "/2", "1/0", "0/0", "1/00", "1/02", "1/-2", "1//2", "1/2/3", "1/2.5", "1.5/2", "1 / 2",
		".", ".5", "1.", "-.5", "1.2.3", "1.-5", "1.a", "01.5", "1.0000000000000", "0.1234567890123",
		"100000000000000000000", "1/100000000000000000000", "100000000000000000000.5", "-100000000000000000000", strings.Repeat("9", 1000000)} {
		if x, e := Parse(s); x != (api.Rat{}) || e != api.ErrSyntax {
			t.Errorf("Parse of %.40q: %v %v", s, x, e)
		}
	}
}

func TestPrint(t *testing.T) {
	for _, c := range []struct {
		x    api.Rat
		want string
		err  api.Errno
	}{
		{q(-5, 3), "-5/3", api.OK},
		{q(5, 3), "5/3", api.OK},
		{q(0, 1), "0", api.OK},
		{q(-7, 1), "-7", api.OK},
		{q(-api.MaxNum, 1), "-1000000000000", api.OK},
		{q(1, api.MaxNum), "1/1000000000000", api.OK},
		{q(2, 4), "", api.ErrArg},
		{api.Rat{}, "", api.ErrArg},
	} {
		if s, e := Print(c.x); s != c.want || e != c.err {
			t.Errorf("Print of %v: %q %v", c.x, s, e)
		}
	}
}

func TestPrintParsed(t *testing.T) {
	r := rand.New(rand.NewSource(10))
	for range 5000 {
		x := number(r)
		s, e := Print(x)
		if e != api.OK {
			t.Fatalf("Print of %v: %v", x, e)
		}
		if y, e := Parse(s); y != x || e != api.OK {
			t.Fatalf("Parse of %q: %v %v, not %v", s, y, e, x)
		}
	}
}
