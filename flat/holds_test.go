package flat

import (
	"strings"
	"testing"

	"isocline/api"
)

func TestHolds(t *testing.T) {
	for _, x := range []struct {
		model, env string
		holds      bool
		at         int
		err        api.Errno
	}{
		{"", "", true, 0, api.OK},
		{"x; y; parameter k = 3; equation x = k * y; initial x = 5; equation x + y = 8", "x 6, y 2", true, 0, api.OK},
		{"x; y; parameter k = 3; equation x = k * y; initial x = 5; equation x + y = 8", "x 6, y 3", false, 0, api.OK},
		{"x; y; parameter k = 3; equation x = k * y; initial x = 5; equation x + y = 8", "x 9, y 3", false, 2, api.OK},
		// Start values, initial equations, links and whens say nothing.
		{"x = 1; y; initial x = z0; z0; connect x y; when x < 1 set y = 2; equation y = 2", "x 5, y 2", true, 0, api.OK},
		// All that may be in an environment.
		{"x; discrete d; parameter k = 2; equation der(x) = pre(x) + pre(d) * pre(k) + d - time", "der(x) 16, pre(x) 1, pre(d) 2, pre(k) 5, d 6, time 1, der(d) 1, der(k) 1, x 7", true, 0, api.OK},
		{"x; equation 0 = 0", "y 1", false, 0, api.ErrNone},
		{"x; equation 0 = 0", "der(y) 1", false, 0, api.ErrNone},
		{"x; equation 0 = 0", "pre(y) 1", false, 0, api.ErrNone},
		{"x; equation 0 = 0", "der(time) 1", false, 0, api.ErrNone},
		{"x; equation 0 = 0", "pre(der(x)) 1", false, 0, api.ErrNone},
		{"u.x; equation 0 = 0", "u 1", false, 0, api.ErrNone},
		{"parameter k = 2; equation k = 2", "k 2", false, 0, api.ErrNone},
		{"x; equation 0 = 1", "y 1", false, 0, api.ErrNone},
		{"x; equation 0 = 1", "x 1, x 1", false, 0, api.ErrTwice},
		{"x; equation 0 = 1", "y 1, x 1, y 1", false, 0, api.ErrTwice},
		// The first equation that does not hold or has an error decides, each from the left, by what it asks.
		{"x; y; equation x = y", "x 1", false, 0, api.ErrNone},
		{"x; y; equation x = y", "y 1", false, 0, api.ErrNone},
		{"x; y; equation 0 = 1; equation x = y", "x 1", false, 0, api.OK},
		{"x; y; equation 1 = 1; equation 0 = 1; equation x = y", "x 1", false, 1, api.OK},
		{"x; y; equation 1 / (x - x) = y", "x 1", false, 0, api.ErrFit},
		{"x; y; equation y = 1 / (x - x)", "x 1", false, 0, api.ErrNone},
		{"x; y; equation 1 = 1 / (x - x) + y", "x 1", false, 0, api.ErrFit},
		{"x; y; equation y + 1 / (x - x) = 1", "x 1", false, 0, api.ErrNone},
		{"x; equation x^-1 = 1", "x 0", false, 0, api.ErrFit},
		{"x; equation x^-2 = 1/4; equation x^0 = 1; equation x^1 = 2", "x 2", true, 0, api.OK},
		{"x; y; equation (if x < 2 then 3 else y) = 3", "x 1", true, 0, api.OK},
		{"x; y; equation (if x < 2 then y else 3) = 3", "x 1", false, 0, api.ErrNone},
		{"x; y; equation (if y < 2 then x else 3) = 3", "x 1", false, 0, api.ErrNone},
		{"x; y; equation (if x < 2 or y < 1 then 1 else 2) = 1; equation (if not x < 2 and y < 1 then 1 else 2) = 2", "x 1", true, 0, api.OK},
		{"x; y; equation (if not (x < 2 and y < 1) then 1 else 2) = 1", "x 1", false, 0, api.ErrNone},
		{"x; y; equation (if not y < 2 then 1 else 2) = 1", "x 1", false, 0, api.ErrNone},
		{"x; y; equation (if 3 <= y then 1 else 2) = 1", "x 1", false, 0, api.ErrNone},
		{"x; equation (if x <= 2 then 1 else 0) + (if x < 2 then 1 else 0) + (if 2 <= x then 1 else 0) + (if 2 < x then 1 else 0) = 2", "x 2", true, 0, api.OK},
		{"x; y; equation abs(x) + abs(y) = 5; equation min(x, y) = -3; equation max(x, y) = 2; equation min(x, x) = max(x, x); equation -(x) - y = x / y - 1/2", "x 2, y -3", false, 4, api.OK},
		{"x; y; equation abs(x) + abs(y) = 5; equation min(x, y) = -3; equation max(x, y) = 2; equation min(y, x) + max(y, x) = x + y; equation -(x) - y = x / y + 5/3", "x 2, y -3", true, 0, api.OK},
		// Values of any size.
		{"x; equation (x^6)^6 = x^6 * (x^6)^5", "x 1000000000000", true, 0, api.OK},
		{"x; equation (x^6)^6 = x^6 * (x^6)^5 + 1", "x 1000000000000", false, 0, api.OK},
		{"x; equation (x^6)^6 - (x^6)^6 = 1 - 1; equation 1 / x / x / x = 1 / x^3", "x 1000000000000", true, 0, api.OK},
		{"x; equation z = 1", "x 1, x 1", false, 0, api.ErrNone},
	} {
		holds, at, err := Holds(flatOf(x.model), env(x.env))
		if holds != x.holds || at != x.at || err != x.err {
			t.Errorf("Holds of %s in %s: %v %d %d", x.model, x.env, holds, at, err)
		}
	}
}

// TestHoldsLimit asks for values about 2^4096, where evaluation ends; H is 2^2048.
func TestHoldsLimit(t *testing.T) {
	for _, x := range []struct {
		equation string
		holds    bool
		err      api.Errno
	}{
		{"H * (H / 2) = (H / 2) * H", true, api.OK},
		{"H * (H - 1) = H * H", false, api.ErrLarge},
		{"H * (H - 1) = H * (H - 1)", true, api.OK},
		{"H * (H - 1) = H * (H - 2)", false, api.OK},
		{"1 = H * H", false, api.ErrLarge},
		{"0 = 0 * (H * H)", false, api.ErrLarge},
		{"1 = H * (0 - H)", false, api.ErrLarge},
		{"1 = 2 / H / H", false, api.OK},
		{"1 = 1 / H / H", false, api.ErrLarge},
		{"1 = H * (H / 2) * x", false, api.ErrLarge},
		{"1 = (if H < H * H then 1 else 1)", false, api.ErrLarge},
		{"1 = (if H < H then H * H else 1)", true, api.OK},
		{"1 = (if H <= H then H * H else 1)", false, api.ErrLarge},
	} {
		h := "(((((x^4)^4)^4)^4)^4)^2"
		holds, at, err := Holds(flatOf("x; equation "+strings.ReplaceAll(x.equation, "H", h)), env("x 2"))
		if holds != x.holds || at != 0 || err != x.err {
			t.Errorf("Holds of %s: %v %d %d", x.equation, holds, at, err)
		}
	}
}

func TestHoldsErrors(t *testing.T) {
	f := flatOf("x; equation x = z")
	if holds, at, err := Holds(f, make([]api.Bind, 65)); holds || at != 0 || err != api.ErrNone {
		t.Errorf("Holds of no model: %v %d %d", holds, at, err)
	}
	f = flatOf("x; equation x = 1; equation x = 2")
	for want, env := range map[api.Errno][]api.Bind{
		api.ErrLarge: make([]api.Bind, 65),
		api.ErrArg:   {{Name: "z", V: num("1")}, {Name: "z", V: api.Rat{N: 2, D: 4}}},
		api.ErrTwice: {{Name: "z", V: num("1")}, {Name: "z", V: num("1")}},
	} {
		if holds, at, err := Holds(f, env); holds || at != 0 || err != want {
			t.Errorf("Holds with %d: %v %d %d", want, holds, at, err)
		}
	}
	// 63 variables and the time are as many names as there may be.
	many := flatOf(times(63, "x@; equation x@ = time;"))
	if holds, at, err := Holds(many, env(times(63, "x@ 5,")+"time 5")); !holds || at != 0 || err != api.OK {
		t.Errorf("Holds of many: %v %d %d", holds, at, err)
	}
}

func TestPlain(t *testing.T) {
	ring := electric + "model a; res r[2](r = 2 * k); parameter Real k = 3; Real x; initial x = 5; equation x = r[1].r; equation x = 6 * time; connect r[1].n r[2].p; .\n" +
		"model b; inner Real o; c u[2]; .\nmodel c; outer Real o; Real x; equation x = o; ."
	currents := "r[1].p.v 7, r[1].p.i 1, r[1].n.v 1, r[1].n.i -1, r[2].p.v 0, r[2].p.i 2, r[2].n.v -12, r[2].n.i -2"
	for _, x := range []struct {
		name, env string
		holds     bool
		err       api.Errno
	}{
		{"a", currents + ", x 6, time 1", true, api.OK},
		{"a", currents + ", x 7, time 1", false, api.OK},
		{"a", strings.Replace(currents, "n.i -2", "n.i -1", 1) + ", x 6, time 1", false, api.OK},
		{"a", currents + ", x 6", false, api.ErrNone},
		{"a", currents + ", x 7", false, api.OK},
		{"a", currents + ", x 6, time 1, k 3", false, api.ErrNone},
		{"a", currents + ", x 6, time 1, z 3", false, api.ErrNone},
		{"a", currents + ", x 6, time 1, x 6", false, api.ErrTwice},
		{"b", "o 1, u[1].x 1, u[2].x 1", true, api.OK},
		{"b", "o 1, u[1].x 1, u[2].x 2", false, api.OK},
		{"b", "o 1, u[1].x 1", false, api.ErrNone},
		{"b", "o 1, u[1].x 2", false, api.OK},
		{"c", "x 1, x 1", false, api.ErrNone},
		{"d", "x 1, x 1", false, api.ErrNone},
	} {
		holds, err := Plain(lib(ring), x.name, env(x.env))
		if holds != x.holds || err != x.err {
			t.Errorf("Plain of %s in %s: %v %d", x.name, x.env, holds, err)
		}
		if f, ferr := Flatten(lib(ring), x.name); ferr == api.OK {
			if again, _, aerr := Holds(f, env(x.env)); again != holds || aerr != err {
				t.Errorf("Plain of %s in %s: %v %d, but Holds: %v %d", x.name, x.env, holds, err, again, aerr)
			}
		}
	}
	if holds, err := Plain(lib("model a; parameter Real k = k; ."), "a", make([]api.Bind, 65)); holds || err != api.ErrLoop {
		t.Errorf("Plain of what has no flat model: %v %d", holds, err)
	}
}
