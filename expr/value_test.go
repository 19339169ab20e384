package expr

import (
	"math/big"
	"strings"
	"testing"

	"isocline/api"
)

// bind is an environment by texts of names and whole numbers.
func bind(l ...any) []api.Bind {
	var env []api.Bind
	for i := 0; i < len(l); i += 2 {
		env = append(env, api.Bind{Name: l[i].(string), V: q(l[i+1].(int), 1)})
	}
	return env
}

func TestValue(t *testing.T) {
	env := append(bind("x", 3, "y", -2, "o", 0, "der(x)", 5, "pre(x)", 7), api.Bind{Name: "h", V: q(1, 2)})
	for s, want := range map[string]api.Rat{
		"2/3": q(2, 3), "x": q(3, 1), "der(x)": q(5, 1), "pre(x)": q(7, 1), "-x": q(-3, 1), "- y": q(2, 1), "-o": q(0, 1), "abs(y)": q(2, 1), "abs(x)": q(3, 1), "abs(o)": q(0, 1),
		"x+y": q(1, 1), "x-y": q(5, 1), "x*y": q(-6, 1), "x/y": q(-3, 2), "o/y": q(0, 1), "min(x,y)": q(-2, 1), "max(x,y)": q(3, 1), "min(x,x)": q(3, 1),
		"y^3": q(-8, 1), "y^-3": q(-1, 8), "x^0": q(1, 1), "o^0": q(1, 1), "o^3": q(0, 1), "x^1": q(3, 1), "h^2": q(1, 4), "h^-6": q(64, 1), "-3^2": q(9, 1), "- 3^2": q(-9, 1),
		"x-y-h": q(9, 2), "x-(y-h)": q(11, 2), "x/y/h": q(-3, 1), "h+1/3": q(5, 6),
		"if x<y then 1 else 2": q(2, 1), "if y<x then 1 else 2": q(1, 1), "if x<x then 1 else 2": q(2, 1), "if x<=x then 1 else 2": q(1, 1),
		"if x<y or y<x then 1 else 2": q(1, 1), "if x<y and y<x then 1 else 2": q(2, 1), "if not x<y then 1 else 2": q(1, 1),
		"if o<1 then 1 else 1/o": q(1, 1), "if 1<=o then none else 4": q(4, 1), "if o<1 or 1/o<2 then 1 else 2": q(1, 1), "if 1<o and none<2 then 1 else 2": q(2, 1),
		"1000000000000*1000000000000/1000000000000": q(api.MaxNum, 1), "1000000000000^6/1000000000000^5": q(api.MaxNum, 1),
		"0*1000000000000^6": q(0, 1), "1000000000000-1+1": q(api.MaxNum, 1), "1000000000000+1-1": q(api.MaxNum, 1),
	} {
		if x, err := Value(parse(t, s), env); x != want || err != api.OK {
			t.Errorf("Value of %q: %v %v, not %v", s, x, err, want)
		}
	}
	if x, err := Value(parse(t, "a + 2*b"), bind("a", 1, "b", 3)); x != q(7, 1) || err != api.OK {
		t.Errorf("Value of the example: %v %v", x, err)
	}
}

func TestValueTroubles(t *testing.T) {
	env := bind("x", 3, "o", 0, "m", api.MaxNum)
	huge := "(" + strings.Repeat("m^6*", 5) + "m^6)" // 10^432
	over := "(" + huge + "^2*" + huge + ")"          // 10^1296: above 2^4096
	for s, want := range map[string]api.Errno{
		"y": api.ErrNone, "der(x)": api.ErrNone, "pre(x)": api.ErrNone, "1/o": api.ErrFit, "o/o": api.ErrFit, "1/(x-3)": api.ErrFit, "o^-1": api.ErrFit, "(x-3)^-6": api.ErrFit,
		"y+1/o": api.ErrNone, "1/o+y": api.ErrFit, "y/o": api.ErrNone, "o^-1*y": api.ErrFit, "abs(1/o)+y": api.ErrFit, "min(y,1/o)": api.ErrNone, "max(1/o,y)": api.ErrFit,
		"if y<1/o then 1 else 2": api.ErrNone, "if 1/o<y then 1 else 2": api.ErrFit, "if x<1 then 1/o else y": api.ErrNone, "if x<4 then 1/o else y": api.ErrFit,
		"if x<4 or y<1 then 1 else 1/o": api.OK, "if x<4 and y<1 then 1 else 1/o": api.ErrNone, "if x<1 or 1/o<y then 1 else 2": api.ErrFit,
		"if not y<1 then 1 else 2": api.ErrNone, "if y<1 or x<4 then 1 else 2": api.ErrNone, "0*y": api.ErrNone, "0/o": api.ErrFit, "0*(1/o)": api.ErrFit,
		"m+1": api.ErrLarge, "m*m": api.ErrLarge, "-m-1": api.ErrLarge, "1/m / 2": api.ErrLarge, "m^-1/ 2": api.ErrLarge, "m*m-m*m": api.OK,
		huge: api.ErrLarge, huge + "/" + huge: api.OK, "1/" + huge + "*" + huge: api.OK, over: api.ErrLarge, "0*" + over: api.ErrLarge, over + "*y": api.ErrLarge, "y*" + over: api.ErrNone,
		"if " + huge + "<x then 1 else 2": api.OK, "if " + over + "<x then 1 else 2": api.ErrLarge, "if x<4 then 1 else " + over: api.OK, "(1/" + huge + ")^3": api.ErrLarge,
		"1/(" + huge + "-" + huge + ")": api.ErrFit, "(" + huge + "-" + huge + ")^0": api.OK, huge + "^6*o": api.ErrLarge, "o*" + huge + "^2*y": api.ErrNone,
	} {
		e := parse(t, s)
		x, err := Value(e, env)
		if err != want || err != api.OK && x != (api.Rat{}) {
			t.Errorf("Value of %q: %v %v, not %v", s, x, err, want)
		}
		if x, d, err := Dual(e, env, nil); err != want || err != api.OK && (x != api.Rat{} || d != api.Rat{}) {
			t.Errorf("Dual of %q: %v %v %v, not %v", s, x, d, err, want)
		}
	}
}

// TestLongest has values at the limit of what may be in between.
func TestLongest(t *testing.T) {
	most := "(((549755813888^2*8192)^5)^3)^3" // 2^4095, of 2^39 and 2^13
	for s, want := range map[string]api.Errno{
		"0*" + most: api.OK, "0*(" + most + "*2)": api.ErrLarge, "0*(" + most + "+" + most + ")": api.ErrLarge, "0*(1/" + most + ")": api.OK,
		"0*(1/" + most + " /  2)": api.ErrLarge, "0*(-(" + most + ")*2)": api.ErrLarge, "0*(-(" + most + "))": api.OK, most + "/" + most: api.OK,
		"0*(" + most + "*1.5)": api.OK, "0*(" + most + "-1+" + most + ")": api.OK, "0*(" + most + "*2-1)": api.ErrLarge, "0*(-(" + most + ")-" + most + ")": api.ErrLarge,
	} {
		e, _, err := Parse(s)
		if err != api.OK {
			t.Fatalf("Parse of %q: %v", s, err)
		}
		if x, err := Value(e, nil); err != want {
			t.Errorf("Value of %q: %v %v", s, x, err)
		}
		if x, d, err := Dual(e, nil, nil); err != want {
			t.Errorf("Dual of %q: %v %v %v", s, x, d, err)
		}
		if _, l, err := Terms(e); err != want {
			t.Errorf("Terms of %q: %v %v", s, l, err)
		}
		yes := node(api.ELeq, e, e)
		if x, err := Truth(yes, nil); err != want || x != (err == api.OK) {
			t.Errorf("Truth of %q: %v %v", s, x, err)
		}
	}
}

func TestTruth(t *testing.T) {
	env := bind("x", 3, "y", -2, "o", 0)
	for s, want := range map[string]bool{
		"x<y": false, "y<x": true, "x<x": false, "x<=x": true, "x<=y": false, "y<=x": true, "not x<y": true, "not not x<y": false,
		"x<y or y<x": true, "y<x or x<y": true, "x<y or x<y": false, "y<x and y<x": true, "y<x and x<y": false, "x<y and y<x": false,
		"y<x or 1/o<1": true, "x<y and z<1": false, "not (x<y and z<1)": true, "(if x<y then 1 else 2)<2": false, "1/3<0.3334": true, "1000000000000^6<1000000000000^5": false,
	} {
		if x, err := Truth(parse(t, s), env); x != want || err != api.OK {
			t.Errorf("Truth of %q: %v %v", s, x, err)
		}
	}
	for s, want := range map[string]api.Errno{
		"z<1": api.ErrNone, "1<z": api.ErrNone, "1/o<z": api.ErrFit, "z<1/o": api.ErrNone, "not z<1": api.ErrNone, "x<y or z<1": api.ErrNone, "y<x and 1/o<1": api.ErrFit,
		"z<1 or y<x": api.ErrNone, "z<1 and x<y": api.ErrNone, "not not 1<=o^-2": api.ErrFit, "x": api.ErrType, "z": api.ErrType, "1/o": api.ErrType,
		"(1000000000000^6)^6*(1000000000000^6)^6*(1000000000000^6)^6*(1000000000000^6)^6<1": api.ErrLarge,
	} {
		if x, err := Truth(parse(t, s), env); x || err != want {
			t.Errorf("Truth of %q: %v %v", s, x, err)
		}
	}
}

// TestEnvironments asks for the errors of environments, and of sorts behind them.
func TestEnvironments(t *testing.T) {
	many := make([]api.Bind, api.MaxRow+1)
	for i := range many {
		many[i] = api.Bind{Name: strings.Repeat("n", i), V: q(i, 1)}
	}
	twice := append(bind("x", 1), many[2], many[2])
	wrong := append(bind("x", 1), many[2], many[2], api.Bind{Name: "x", V: q(2, 4)})
	x, less, bad := name("x"), node(api.ELess, name("x"), name("x")), api.Expr{}
	for _, c := range []struct {
		env  []api.Bind
		want api.Errno
	}{
		{many, api.ErrLarge}, {append(wrong, many...), api.ErrLarge}, {wrong, api.ErrArg}, {twice, api.ErrTwice}, {bind("", 1, "", 2), api.ErrTwice},
	} {
		for _, e := range []api.Expr{x, less, fixed(q(1, 1))} {
			if v, err := Value(e, c.env); v != (api.Rat{}) || err != c.want {
				t.Errorf("Value: %v %v, not %v", v, err, c.want)
			}
			if v, err := Truth(e, c.env); v || err != c.want {
				t.Errorf("Truth: %v %v, not %v", v, err, c.want)
			}
			if v, d, err := Dual(e, c.env, append(wrong, many...)); v != (api.Rat{}) || d != (api.Rat{}) || err != c.want {
				t.Errorf("Dual: %v %v %v, not %v", v, d, err, c.want)
			}
			if v, d, err := Dual(e, bind("x", 1), c.env); v != (api.Rat{}) || d != (api.Rat{}) || err != c.want {
				t.Errorf("Dual: %v %v %v, not %v", v, d, err, c.want)
			}
		}
		if _, err := Value(bad, c.env); err != api.ErrArg {
			t.Errorf("Value of no expression: %v", err)
		}
		if _, err := Truth(chainOf(13), c.env); err != api.ErrLarge {
			t.Errorf("Truth of a large expression: %v", err)
		}
		if _, _, err := Dual(bad, c.env, c.env); err != api.ErrArg {
			t.Errorf("Dual of no expression: %v", err)
		}
	}
	if v, err := Value(x, append(many[:api.MaxRow-1:api.MaxRow-1], bind("x", 5)...)); v != q(5, 1) || err != api.OK {
		t.Errorf("Value in a long environment: %v %v", v, err)
	}
	if v, err := Value(less, bind("x", 1)); v != (api.Rat{}) || err != api.ErrType {
		t.Errorf("Value of a condition: %v %v", v, err)
	}
	if v, err := Value(less, nil); v != (api.Rat{}) || err != api.ErrType {
		t.Errorf("Value of a condition without names: %v %v", v, err)
	}
	if v, d, err := Dual(less, nil, nil); v != (api.Rat{}) || d != (api.Rat{}) || err != api.ErrType {
		t.Errorf("Dual of a condition: %v %v %v", v, d, err)
	}
}

// plain evaluates as the document says, with the library's numbers and, if there is a direction, their derivatives.
type plain struct {
	env, dir map[string]*big.Rat
}

// pair is a value and its derivative.
type pair struct {
	v, d *big.Rat
}

func bigs(env []api.Bind) map[string]*big.Rat {
	m := map[string]*big.Rat{}
	for _, b := range env {
		m[b.Name] = toBig(b.V)
	}
	return m
}

func (p plain) of(e api.Expr) (pair, api.Errno) {
	x, err := p.node(e)
	if err == api.OK && (isLong(x.v) || isLong(x.d)) {
		err = api.ErrLarge
	}
	return x, err
}

func (p plain) node(e api.Expr) (pair, api.Errno) {
	nought := new(big.Rat)
	switch e.Op {
	case api.EConst:
		return pair{toBig(e.N), nought}, api.OK
	case api.EName, api.EDer, api.EPre:
		s := map[int]string{api.EName: e.Name, api.EDer: "der(" + e.Name + ")", api.EPre: "pre(" + e.Name + ")"}[e.Op]
		v, ok := p.env[s]
		if !ok {
			return pair{}, api.ErrNone
		}
		d, ok := p.dir[s]
		if !ok {
			d = nought
		}
		return pair{v, d}, api.OK
	case api.EIf:
		yes, err := p.truth(e.Kids[0])
		if err != api.OK {
			return pair{}, err
		}
		if yes {
			return p.of(e.Kids[1])
		}
		return p.of(e.Kids[2])
	}
	x, err := p.of(e.Kids[0])
	if err != api.OK {
		return pair{}, err
	}
	minus := pair{}
	minus.v, minus.d = new(big.Rat).Neg(x.v), new(big.Rat).Neg(x.d)
	switch {
	case e.Op == api.ENeg, e.Op == api.EAbs && x.v.Sign() < 0:
		return minus, api.OK
	case e.Op == api.EAbs:
		return x, api.OK
	case e.Op == api.EPow:
		n := e.N.N
		if n < 0 && x.v.Sign() == 0 {
			return pair{}, api.ErrFit
		}
		d := new(big.Rat)
		if n != 0 {
			d.Mul(d.Mul(big.NewRat(int64(n), 1), bigPower(x.v, n-1)), x.d)
		}
		return pair{bigPower(x.v, n), d}, api.OK
	}
	y, err := p.of(e.Kids[1])
	if err != api.OK {
		return pair{}, err
	}
	return pairOf(e.Op, x, y)
}

func pairOf(op int, x, y pair) (pair, api.Errno) {
	v, d, h := new(big.Rat), new(big.Rat), new(big.Rat)
	switch op {
	case api.EAdd:
		return pair{v.Add(x.v, y.v), d.Add(x.d, y.d)}, api.OK
	case api.ESub:
		return pair{v.Sub(x.v, y.v), d.Sub(x.d, y.d)}, api.OK
	case api.EMul:
		return pair{v.Mul(x.v, y.v), d.Add(d.Mul(x.d, y.v), h.Mul(x.v, y.d))}, api.OK
	case api.EDiv:
		if y.v.Sign() == 0 {
			return pair{}, api.ErrFit
		}
		d.Sub(d.Mul(x.d, y.v), h.Mul(x.v, y.d))
		return pair{v.Quo(x.v, y.v), d.Quo(d, h.Mul(y.v, y.v))}, api.OK
	case api.EMin:
		if x.v.Cmp(y.v) <= 0 {
			return x, api.OK
		}
		return y, api.OK
	}
	if x.v.Cmp(y.v) >= 0 {
		return x, api.OK
	}
	return y, api.OK
}

// truth asks no derivatives.
func (p plain) truth(e api.Expr) (bool, api.Errno) {
	p.dir = nil
	if e.Op == api.ELess || e.Op == api.ELeq {
		x, err := p.of(e.Kids[0])
		if err != api.OK {
			return false, err
		}
		y, err := p.of(e.Kids[1])
		if err != api.OK {
			return false, err
		}
		order := x.v.Cmp(y.v)
		return order < 0 || order == 0 && e.Op == api.ELeq, api.OK
	}
	yes, err := p.truth(e.Kids[0])
	switch {
	case err != api.OK:
		return false, err
	case e.Op == api.ENot:
		return !yes, api.OK
	case yes == (e.Op == api.EOr):
		return yes, api.OK
	}
	return p.truth(e.Kids[1])
}

// environment is a random environment of most texts that the maker's names have.
func (m maker) environment() []api.Bind {
	var env []api.Bind
	for _, s := range m.names {
		for _, text := range []string{s, "der(" + s + ")", "pre(" + s + ")"} {
			if m.r.Intn(30) > 0 {
				env = append(env, api.Bind{Name: text, V: m.numbers(m.r)})
			}
		}
	}
	return env
}

func TestValueAgainstLibrary(t *testing.T) {
	m := newMaker(8, allOps)
	met := map[api.Errno]int{}
	for i := range 30000 {
		m.numbers = smallNumber
		if i%2 == 0 {
			m.numbers = wideNumber
		}
		e, env, dir := m.any(8), m.environment(), m.environment()
		p := plain{bigs(env), bigs(dir)}
		if isCondition(e) {
			want, err := p.truth(e)
			if got, e2 := Truth(e, env); got != want || e2 != err {
				t.Fatalf("Truth of %v in %v: %v %v, not %v %v", e, env, got, e2, want, err)
			}
			met[err]++
			continue
		}
		value, err := plain{p.env, nil}.of(e)
		want := api.Rat{}
		if err == api.OK {
			want, err = fromBig(value.v)
		}
		if got, e2 := Value(e, env); got != want || e2 != err {
			t.Fatalf("Value of %v in %v: %v %v, not %v %v", e, env, got, e2, want, err)
		}
		met[err]++
		both, err := p.of(e)
		want, slope := api.Rat{}, api.Rat{}
		if err == api.OK {
			want, err = fromBig(both.v)
		}
		if err == api.OK {
			slope, err = fromBig(both.d)
		}
		if err != api.OK {
			want, slope = api.Rat{}, api.Rat{}
		}
		if got, d, e2 := Dual(e, env, dir); got != want || d != slope || e2 != err {
			t.Fatalf("Dual of %v in %v, %v: %v %v %v, not %v %v %v", e, env, dir, got, d, e2, want, slope, err)
		}
	}
	for _, err := range []api.Errno{api.OK, api.ErrNone, api.ErrFit, api.ErrLarge} {
		if met[err] < 100 {
			t.Errorf("%v only %d times", err, met[err])
		}
	}
}

func TestDual(t *testing.T) {
	env, dir := bind("x", 3, "y", -2, "o", 0, "der(x)", 5), bind("x", 1, "y", 10, "o", 7, "der(x)", 100, "other", 1)
	for s, want := range map[string][2]api.Rat{
		"2":                       {q(2, 1), q(0, 1)},
		"x":                       {q(3, 1), q(1, 1)},
		"der(x)":                  {q(5, 1), q(100, 1)},
		"-x":                      {q(-3, 1), q(-1, 1)},
		"x+y":                     {q(1, 1), q(11, 1)},
		"x-y":                     {q(5, 1), q(-9, 1)},
		"x*y":                     {q(-6, 1), q(28, 1)},
		"x/y":                     {q(-3, 2), q(-8, 1)},
		"x^2":                     {q(9, 1), q(6, 1)},
		"x^-2":                    {q(1, 9), q(-2, 27)},
		"x^0":                     {q(1, 1), q(0, 1)},
		"x^1":                     {q(3, 1), q(1, 1)},
		"o^0":                     {q(1, 1), q(0, 1)},
		"o^1":                     {q(0, 1), q(7, 1)},
		"o^2":                     {q(0, 1), q(0, 1)},
		"abs(x)":                  {q(3, 1), q(1, 1)},
		"abs(y)":                  {q(2, 1), q(-10, 1)},
		"abs(o)":                  {q(0, 1), q(7, 1)},
		"abs(-o)":                 {q(0, 1), q(-7, 1)},
		"min(x,y)":                {q(-2, 1), q(10, 1)},
		"max(x,y)":                {q(3, 1), q(1, 1)},
		"min(x,x+o)":              {q(3, 1), q(1, 1)},
		"min(x+o,x)":              {q(3, 1), q(8, 1)},
		"max(x,x+o)":              {q(3, 1), q(1, 1)},
		"max(x+o,x)":              {q(3, 1), q(8, 1)},
		"if o<=0 then x else y":   {q(3, 1), q(1, 1)},
		"if o<0 then x else y":    {q(-2, 1), q(10, 1)},
		"if o<=0 then x else 1/o": {q(3, 1), q(1, 1)},
	} {
		x, d, err := Dual(parse(t, s), env, dir)
		if x != want[0] || d != want[1] || err != api.OK {
			t.Errorf("Dual of %q: %v %v %v, not %v", s, x, d, err, want)
		}
	}
	if x, d, err := Dual(parse(t, "x*y"), env, nil); x != q(-6, 1) || d != q(0, 1) || err != api.OK {
		t.Errorf("Dual without a direction: %v %v %v", x, d, err)
	}
	// The derivative alone is large: in the end, and in between; of a condition none is asked.
	large := bind("x", api.MaxNum)
	for s, want := range map[string]api.Errno{
		"x": api.OK, "2*x": api.ErrLarge, "2*x-2*x": api.OK, "(x-3)*1000000000000^6*1000000000000^6-x": api.ErrLarge,
		"0*(1000000000000^6)^6*(1000000000000^6)^6*(1000000000000^6)^6":                          api.OK,
		"0*((x-3)*((1000000000000^6)^6*(1000000000000^6)^6*(1000000000000^6)^6))":                api.ErrLarge,
		"if (x-3)*((1000000000000^6)^6*(1000000000000^6)^6*(1000000000000^6)^6)<1 then 1 else 2": api.ErrLarge,
		"if (x-3)*((1000000000000^6)^6*(1000000000000^6)^6)*(1000000000000^6)^6<1 then 1 else 2": api.OK,
	} {
		if x, d, err := Dual(parse(t, s), env, large); err != want || err != api.OK && (x != api.Rat{} || d != api.Rat{}) {
			t.Errorf("Dual of %q: %v %v %v, not %v", s, x, d, err, want)
		}
	}
}
