package flat

import (
	"strings"
	"testing"

	"isocline/api"
)

// good is a flat model with all kinds of items.
const good = "x = 1 in V; flow y; parameter k = 2 in 1/s; discrete d; u[2].p.v; " +
	"equation x = if y < time then k else pre(d); equation der(u[2].p.v) = pre(k); initial x = 1; " +
	"connect u[2].p u[2] @ u[2]; connect x u; when x < 1 set d = x set k = 1; when 0 < 1"

// changed is the good model with a change.
func changed(change func(f *api.Flat)) api.Flat {
	f := flatOf(strings.Replace(good, " @ u[2]; connect x u;", ";", 1))
	change(&f)
	return f
}

func TestValidate(t *testing.T) {
	f := flatOf(good)
	f.Links = []api.Link{{A: "u[2].p", B: "u[2].p.v", In: "u[2]"}, {A: "x", B: "u[2]"}, {A: "u[2].p", B: "u[2].p", In: ""}}
	if err := Validate(f); err != api.OK {
		t.Errorf("Validate: %d", err)
	}
	if err := Validate(api.Flat{}); err != api.OK {
		t.Errorf("Validate of nothing: %d", err)
	}
	if err := Validate(flatOf("x; equation der(time) = pre(time); equation x = time")); err != api.OK {
		t.Errorf("Validate with the time: %d", err)
	}
}

func TestValidateErrors(t *testing.T) {
	long := "a234567890123456." + strings.Repeat("b234567890123456.", 2) + "c23456789"
	for i, x := range []struct {
		change func(f *api.Flat)
		err    api.Errno
	}{
		{func(f *api.Flat) {}, api.OK},
		{func(f *api.Flat) { f.Vars = flatOf(times(64, "x@;")).Vars; f.Eqs, f.Links, f.Whens = nil, nil, nil }, api.OK},
		{func(f *api.Flat) { f.Vars = flatOf(times(65, "x@;")).Vars; f.Eqs, f.Links, f.Whens = nil, nil, nil }, api.ErrLarge},
		{func(f *api.Flat) { f.Eqs = flatOf(times(96, "equation x = 1;")).Eqs }, api.OK},
		{func(f *api.Flat) { f.Eqs = flatOf(times(97, "equation x = 1;")).Eqs }, api.ErrLarge},
		{func(f *api.Flat) { f.Links = make([]api.Link, 97) }, api.ErrLarge},
		{func(f *api.Flat) { f.Links = flatOf(times(96, "connect x x;")).Links }, api.OK},
		{func(f *api.Flat) { f.Whens = make([]api.When, 97) }, api.ErrLarge},
		{func(f *api.Flat) { f.Whens = flatOf(times(96, "when x < 1;")).Whens }, api.OK},
		{func(f *api.Flat) { f.Whens[0].Sets = flatOf("when 0 < 1" + times(50, " set d = 1")).Whens[0].Sets }, api.OK},
		{func(f *api.Flat) { f.Whens = make([]api.When, 97); f.Vars[0].Name = "" }, api.ErrLarge},
		// Fields.
		{func(f *api.Flat) { f.Vars[1].Name = "" }, api.ErrArg},
		{func(f *api.Flat) { f.Vars[1].Name = "time" }, api.ErrArg},
		{func(f *api.Flat) { f.Vars[1].Name = "y.when" }, api.ErrArg},
		{func(f *api.Flat) { f.Vars[3].Name = "y[9]" }, api.ErrArg},
		{func(f *api.Flat) { f.Vars[4].Name = "u[02].p.v" }, api.ErrArg},
		{func(f *api.Flat) { f.Vars = append(f.Vars, variable(long)) }, api.OK},
		{func(f *api.Flat) { f.Vars = append(f.Vars, variable(long+"9")) }, api.ErrArg},
		{func(f *api.Flat) { f.Vars[1].Var = -1 }, api.ErrArg},
		{func(f *api.Flat) { f.Vars[1].Var = 3 }, api.ErrArg},
		{func(f *api.Flat) { f.Vars[1].Value = api.Rat{} }, api.ErrArg},
		{func(f *api.Flat) { f.Vars[1].Value = api.Rat{N: 2, D: 2} }, api.ErrArg},
		{func(f *api.Flat) { f.Vars[1].Value = api.Rat{N: 2, D: 1} }, api.OK},
		{func(f *api.Flat) { f.Vars[1].Unit = "foo" }, api.ErrArg},
		{func(f *api.Flat) { f.Vars[1].Unit = " " }, api.ErrArg},
		{func(f *api.Flat) { f.Vars[1].Unit = "100 kN.m/s2" }, api.OK},
		{func(f *api.Flat) { f.Vars[2].Fixed = false }, api.ErrArg},
		{func(f *api.Flat) { f.Vars[3].Fixed = true }, api.OK},
		{func(f *api.Flat) { f.Links = []api.Link{{A: "u[2].p", B: "x", In: "u[2]"}} }, api.ErrArg},
		{func(f *api.Flat) { f.Links = []api.Link{{A: "x", B: "u[2].p", In: "u[2]"}} }, api.ErrArg},
		{func(f *api.Flat) { f.Links = []api.Link{{A: "u[2]", B: "u[2].p", In: "u[2]"}} }, api.ErrArg},
		{func(f *api.Flat) { f.Links = []api.Link{{A: "u[2].p", B: "u[2].p", In: "u"}} }, api.ErrArg},
		{func(f *api.Flat) { f.Links = []api.Link{{A: "u[2].p.v", B: "u[2].p.v", In: "u[2].p"}} }, api.OK},
		{func(f *api.Flat) { f.Vars[1].Unit = "foo"; f.Vars[2].Name = "x" }, api.ErrArg},
		{func(f *api.Flat) {
			f.Links = []api.Link{{A: "x", B: "x", In: "u"}}
			f.Vars[2].Name = "x"
		}, api.ErrArg},
		// Names.
		{func(f *api.Flat) { f.Vars[3].Name = "x" }, api.ErrTwice},
		{func(f *api.Flat) { f.Vars[3].Name = "x"; f.Eqs[0].L = api.Expr{} }, api.ErrTwice},
		{func(f *api.Flat) { f.Vars[3].Name = "u[2].p" }, api.ErrNone},
		// Expressions, in their order.
		{func(f *api.Flat) { f.Eqs[0].L = api.Expr{} }, api.ErrArg},
		{func(f *api.Flat) { f.Eqs[2].R = api.Expr{Op: api.EName, Name: "if"} }, api.ErrArg},
		{func(f *api.Flat) { f.Whens[1].C = api.Expr{} }, api.ErrArg},
		{func(f *api.Flat) { f.Whens[0].Sets[1].E = api.Expr{Op: api.EAbs, Kids: []api.Expr{ex("x < 1")}} }, api.ErrType},
		{func(f *api.Flat) {
			f.Eqs[1].R = api.Expr{Op: api.EAbs, Kids: []api.Expr{ex("x < 1")}}
			f.Whens[1].C = api.Expr{}
		}, api.ErrType},
		{func(f *api.Flat) {
			f.Eqs[1].R = api.Expr{Op: api.EAdd, Kids: make([]api.Expr, 100)}
			f.Eqs[1].L = api.Expr{}
		}, api.ErrArg},
		{func(f *api.Flat) {
			f.Eqs[1].L = api.Expr{Op: api.EAdd, Kids: make([]api.Expr, 100)}
			f.Eqs[1].R = api.Expr{}
		}, api.ErrLarge},
		{func(f *api.Flat) {
			f.Whens[0].Sets[0].E = api.Expr{}
			f.Whens[1].C = api.Expr{Op: api.EAdd, Kids: make([]api.Expr, 100)}
		}, api.ErrArg},
		{func(f *api.Flat) { f.Eqs[0].L = ex("x < 1") }, api.ErrType},
		{func(f *api.Flat) { f.Eqs[2].R = ex("not x < 1") }, api.ErrType},
		{func(f *api.Flat) { f.Whens[1].C = ex("x") }, api.ErrType},
		{func(f *api.Flat) { f.Whens[0].Sets[1].E = ex("x <= 1") }, api.ErrType},
		{func(f *api.Flat) { f.Whens[0].Sets[1].E = ex("x <= 1 or z < 1") }, api.ErrType},
		{func(f *api.Flat) { f.Eqs[0].L = ex("z"); f.Whens[1].C = ex("x") }, api.ErrType},
		// Names that are none.
		{func(f *api.Flat) { f.Eqs[0].L = ex("z") }, api.ErrNone},
		{func(f *api.Flat) { f.Eqs[2].R = ex("1 + u[2].p") }, api.ErrNone},
		{func(f *api.Flat) { f.Eqs[2].R = ex("1 + time.x") }, api.ErrNone},
		{func(f *api.Flat) { f.Eqs[2].R = ex("der(x)") }, api.OK},
		{func(f *api.Flat) { f.Eqs[2].R = ex("der(k)") }, api.ErrNone},
		{func(f *api.Flat) { f.Eqs[2].R = ex("der(d)") }, api.ErrNone},
		{func(f *api.Flat) { f.Eqs[2].R = ex("der(z)") }, api.ErrNone},
		{func(f *api.Flat) { f.Eqs[2].R = ex("pre(z)") }, api.ErrNone},
		{func(f *api.Flat) { f.Whens[1].C = ex("0 < 1 or 0 < z") }, api.ErrNone},
		{func(f *api.Flat) { f.Whens[0].Sets[0].E = ex("z") }, api.ErrNone},
		{func(f *api.Flat) { f.Whens[0].Sets[0].Name = "z" }, api.ErrNone},
		{func(f *api.Flat) { f.Whens[0].Sets[0].Name = "" }, api.ErrNone},
		{func(f *api.Flat) { f.Whens[0].Sets[0].Name = "time" }, api.ErrNone},
		{func(f *api.Flat) { f.Whens[0].Sets[0].Name = "u[2].p" }, api.ErrNone},
		{func(f *api.Flat) { f.Links = []api.Link{{A: "x", B: "z"}} }, api.ErrNone},
		{func(f *api.Flat) { f.Links = []api.Link{{A: "z", B: "x"}} }, api.ErrNone},
		{func(f *api.Flat) { f.Links = []api.Link{{A: "x", B: "u"}} }, api.ErrNone},
		{func(f *api.Flat) { f.Links = []api.Link{{A: "x", B: "u[2]."}} }, api.ErrNone},
		{func(f *api.Flat) { f.Links = []api.Link{{A: "x", B: ""}} }, api.ErrNone},
		{func(f *api.Flat) { f.Links = []api.Link{{A: "x", B: "time"}} }, api.ErrNone},
		{func(f *api.Flat) { f.Links = []api.Link{{A: "x", B: "u[2].p.v.w"}} }, api.ErrNone},
	} {
		if err := Validate(changed(x.change)); err != x.err {
			t.Errorf("Validate of change %d: %d, not %d", i, err, x.err)
		}
	}
}

func TestParams(t *testing.T) {
	f := flatOf(good)
	f.Links = nil
	f.Vars = append(f.Vars, variable("parameter a = -1/2"), variable("parameter u[1].k = 3"))
	l, err := Params(f)
	if err != api.OK || !same(l, env("k 2, a -1/2, u[1].k 3")) {
		t.Errorf("Params: %v %d", l, err)
	}
	if l, err := Params(api.Flat{Vars: []api.Var{variable("x = 1")}}); err != api.OK || len(l) != 0 {
		t.Errorf("Params of none: %v %d", l, err)
	}
	if l, err := Params(flatOf("equation z = 1")); err != api.ErrNone || len(l) != 0 {
		t.Errorf("Params: %v %d", l, err)
	}
}

func TestPut(t *testing.T) {
	model := "x = 1; parameter k = 2 in V; y; parameter l = 3; equation x = k * l; initial y = k; connect x y; when x < k set y = l"
	f := flatOf(model)
	for _, x := range []struct {
		env  string
		err  api.Errno
		want string
	}{
		{"", api.OK, model},
		{"l -5/3", api.OK, strings.Replace(model, "l = 3", "l = -5/3", 1)},
		{"l 5, k 0", api.OK, strings.Replace(strings.Replace(model, "l = 3", "l = 5", 1), "k = 2", "k = 0", 1)},
		{"l 5, k 0, l 4", api.ErrTwice, ""},
		{"l 5, x 0", api.ErrNone, ""},
		{"l 5, z 0, z 0", api.ErrTwice, ""},
		{"l 5, z 0", api.ErrNone, ""},
		{"time 0", api.ErrNone, ""},
		{"pre(k) 0", api.ErrNone, ""},
	} {
		g, err := Put(f, env(x.env))
		if err != x.err || show(g) != x.want {
			t.Errorf("Put of %q: %s %d", x.env, show(g), err)
		}
	}
	if _, err := Put(f, []api.Bind{{Name: "z", V: num("1")}, {Name: "z", V: api.Rat{}}}); err != api.ErrArg {
		t.Errorf("Put of no number: %d", err)
	}
	if _, err := Put(f, make([]api.Bind, 65)); err != api.ErrLarge {
		t.Errorf("Put of too many: %d", err)
	}
	if _, err := Put(flatOf("equation z = 1"), make([]api.Bind, 65)); err != api.ErrNone {
		t.Errorf("Put in no model: %d", err)
	}
}
