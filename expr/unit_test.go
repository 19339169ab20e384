package expr

import (
	"slices"
	"testing"

	"isocline/api"
	"isocline/unit"
)

// sorts are units by texts of names and units.
func sorts(l ...string) []api.Sort {
	var env []api.Sort
	for i := 0; i < len(l); i += 2 {
		u, _ := unit.Parse(l[i+1])
		env = append(env, api.Sort{Name: l[i], U: u})
	}
	return env
}

func TestUnit(t *testing.T) {
	env := sorts("x", "m", "y", "km", "t", "s", "f", "N", "w", "1", "r", "2 1", "z", "m", "m9", "m9", "s9", "1/s9", "G", "1000000000000 1", "der(x)", "kg")
	for s, want := range map[string]string{
		"x": "m", "der(x)": "m/s", "pre(x)": "m", "der(t)": "1", "pre(y)": "km", "der(y)": "km/s", "2": "1", "0": "1", "-x": "m", "abs(y)": "km", "x+z": "m", "x-z": "m", "min(x,z)": "m", "max(x,z)": "m",
		"x*y": "1000 m2", "x/t": "m/s", "x/y": "1/1000 1", "x/z": "1", "f*x/t": "W", "x^2": "m2", "y^2": "1000000 m2", "t^-2": "1/s2", "x^0": "1", "y^0": "1", "2*x": "m", "x/2": "m", "x*y/y": "m",
		"x+0": "m", "0+x": "m", "0-y": "km", "x-0": "m", "min(0,x)": "m", "max(x,0)": "m", "0+0": "1", "0+3": "1", "0+w": "1", "w+1": "1", "0+r": "2 1", "x*0": "m", "x+0*z": "m",
		"if x<z then x else z": "m", "if x<0 then x else 0": "m", "if 0<x then 0 else x": "m", "if 0<=0 then 0 else 0": "1", "if x/t<der(x) then f else 0": "N", "if not x<z and t<=t or w<1 then t else t": "s",
		"x/t-der(z)": "m/s", "m9/m9": "1", "m9*x^-1": "m8", "min(x,x+0)*t": "m.s", "x*(y-y)": "1000 m2", "1 /(3 - 3)": "1", "x^1": "m",
	} {
		u, err := Unit(parse(t, s), env)
		if w, _ := unit.Parse(want); u != w || err != api.OK {
			t.Errorf("Unit of %s: %v %v, not %s", s, u, err, want)
		}
	}
	for s, want := range map[string]api.Errno{
		"a": api.ErrNone, "der(a)": api.ErrNone, "pre(a)": api.ErrNone, "a+x": api.ErrNone, "x+t": api.ErrFit, "x+y": api.ErrFit, "x-1": api.ErrFit, "1+x": api.ErrFit, "min(x,t)": api.ErrFit, "max(x,y)": api.ErrFit,
		"x+(0+0)": api.ErrFit, "x+0*1": api.ErrFit, "x+ -(0)": api.ErrFit, "w+r": api.ErrFit, "1+r": api.ErrFit, "if x<z then x else y": api.ErrFit, "if x<y then x else z": api.ErrFit, "if x<=t then x else z": api.ErrFit,
		"if x<1 then x else z": api.ErrFit, "if x<z then x else 1": api.ErrFit, "if not (x<z or x<t) then x else z": api.ErrFit, "if x<z and t<x then x else z": api.ErrFit, "if x<z then if x<t then 1 else 2 else 3": api.ErrFit,
		"m9*x": api.ErrLarge, "m9*m9": api.ErrLarge, "x/s9/s9": api.ErrLarge, "x^6*x^6": api.ErrLarge, "m9^2": api.ErrLarge, "der(s9)": api.ErrLarge, "G*G": api.ErrLarge, "1/G/G": api.ErrLarge, "G*y": api.ErrLarge, "G^2/G": api.ErrLarge,
		// The first trouble, kids ahead of their node, from the left; of both kids of EIf, and of conditions.
		"a+(x+t)": api.ErrNone, "(x+t)+a": api.ErrFit, "m9*x+a": api.ErrLarge, "a+m9*x": api.ErrNone, "(m9*x)+(x+t)": api.ErrLarge, "(x+t)+m9*x": api.ErrFit, "x+t+a": api.ErrFit, "x+(t+a)": api.ErrNone,
		"if a<x+t then x else z": api.ErrNone, "if x+t<a then x else z": api.ErrFit, "if x<t then a else z": api.ErrFit, "if x<z then m9*x else a": api.ErrLarge, "if x<z then x else a": api.ErrNone, "if x<a then m9*x else 1": api.ErrNone,
		"if a<1 or x<t then 1 else 1": api.ErrNone, "if x<t or a<1 then 1 else 1": api.ErrFit, "0*a": api.ErrNone, "a^0": api.ErrNone, "0*(x+t)": api.ErrFit, "x<z": api.ErrType, "a<1": api.ErrType, "not x<t": api.ErrType,
	} {
		if u, err := Unit(parse(t, s), env); err != want || u != (api.Unit{}) {
			t.Errorf("Unit of %s: %v %v, not %v", s, u, err, want)
		}
	}
}

func TestUnitEnvironment(t *testing.T) {
	many := make([]api.Sort, api.MaxRow+1)
	for i := range many {
		many[i] = sorts(string(rune('a'+i)), "m")[0]
	}
	x, less := name("a"), node(api.ELess, name("a"), name("a"))
	twice := append(many[:2:2], many[1])
	bad := append(slices.Clone(twice), api.Sort{Name: "z"})
	high := append(slices.Clone(twice), api.Sort{Name: "z", U: api.Unit{E: [7]int{10}, F: q(1, 1)}})
	for _, c := range []struct {
		e    api.Expr
		env  []api.Sort
		want api.Errno
	}{
		{x, many[:api.MaxRow], api.OK}, {x, many, api.ErrLarge}, {x, append(slices.Clone(bad), many...), api.ErrLarge}, {x, bad, api.ErrArg}, {x, high, api.ErrArg}, {x, twice, api.ErrTwice},
		{less, many, api.ErrLarge}, {less, bad, api.ErrArg}, {less, twice, api.ErrTwice}, {less, many[:1], api.ErrType}, {less, nil, api.ErrType}, {x, nil, api.ErrNone},
		{api.Expr{}, many, api.ErrArg}, {chainOf(13), bad, api.ErrLarge}, {node(api.ENot, x), twice, api.ErrType},
	} {
		if u, err := Unit(c.e, c.env); err != c.want || err != api.OK && u != (api.Unit{}) {
			t.Errorf("Unit of %v with %d units: %v %v, not %v", c.e, len(c.env), u, err, c.want)
		}
	}
}

// TestUnitValues: an expression has a unit just if its value is scaled as that says, whatever the base units are.
func TestUnitValues(t *testing.T) {
	m := newMaker(15, []int{api.EConst, api.EName, api.EName, api.ENeg, api.EAbs, api.EAdd, api.ESub, api.EMul, api.EMul, api.EDiv, api.EMin, api.EMax, api.EPow, api.EIf})
	m.names = []string{"l", "k", "t", "a", "n"}
	env := sorts("l", "m", "k", "m", "t", "s", "a", "m/s", "n", "1")
	by := []api.Rat{q(3, 1), q(1, 1), q(2, 5), q(1, 1), q(1, 1), q(1, 1), q(1, 1)}
	fit := 0
	for range 60000 {
		e := m.numeric(4)
		u, err := Unit(e, env)
		if err != api.OK {
			continue
		}
		var plain, scaled []api.Bind
		for _, s := range env {
			v := m.numbers(m.r)
			k, _ := unit.Scale(s.U, by)
			w, _ := fromBig(toBig(v).Mul(toBig(v), toBig(k)))
			plain, scaled = append(plain, api.Bind{Name: s.Name, V: v}), append(scaled, api.Bind{Name: s.Name, V: w})
		}
		v, e1 := Value(e, plain)
		w, e2 := Value(e, scaled)
		k, e3 := unit.Scale(u, by)
		if e1 != api.OK || e2 != api.OK || e3 != api.OK {
			continue
		}
		fit++
		if toBig(w).Cmp(toBig(v).Mul(toBig(v), toBig(k))) != 0 {
			t.Fatalf("Unit of %v: %v, but %v becomes %v", e, u, v, w)
		}
	}
	if fit < 2000 {
		t.Errorf("only %d expressions have units", fit)
	}
}
