package flat

import (
	"testing"

	"isocline/api"
)

func TestUnits(t *testing.T) {
	for _, x := range []struct {
		model string
		at    int
		err   api.Errno
	}{
		{"", -1, api.OK},
		{"x in V; y in A; parameter k = 1 in Ohm; equation x = k * y; initial x - k * y = 0; equation 0 = x; equation 0 = 0; equation x / y - k = 0", -1, api.OK},
		{"x in V; y in A; equation x = 0; equation x = y; equation x = x", 1, api.OK},
		{"x in V; y in A; equation x = 0; initial y = x", 1, api.OK},
		// A factor counts, too; numbers have no unit, but 0 takes that of the other side.
		{"x in V; y in mV; equation x = x; equation x = y", 1, api.OK},
		{"x in V; y in 1000 mV; equation x = y", -1, api.OK},
		{"x in V; equation x = 1", 0, api.OK},
		{"x in V; equation 1 = x", 0, api.OK},
		{"x in V; equation x = 0 * 1", 0, api.OK},
		{"x in V; equation x = -(0)", 0, api.OK},
		{"x in 1; equation x = 1; equation x = -(0)", -1, api.OK},
		// The time, derivatives, values ahead.
		{"x in m; v in m/s; equation der(x) = v; equation x = v * time; equation pre(x) / time = v; equation time^2 = 0; equation pre(v) = x", 4, api.OK},
		{"x in m; equation der(x) = x", 0, api.OK},
		{"x in m; equation x = time", 0, api.OK},
		{"x in m; equation x / der(x) = der(time) * time", -1, api.OK},
		// A side of its own.
		{"x in V; y in A; equation x + y = 0; equation x = 1", 0, api.OK},
		{"x in V; y in A; equation x = x; equation x = if x < y then x else x", 1, api.OK},
		{"x in V; y in A; z; equation x = x; equation x = if x < 0 then x else 0 + x; equation z = 1", 0, api.ErrNone},
		{"x in V; y in A; z; equation x = y; equation z = 1", 0, api.OK},
		{"x in V; y in A; z; equation z = 1; equation x = y", 0, api.ErrNone},
		{"x in V; y in A; z; equation z = x + y", 0, api.ErrNone},
		{"x in V; y in A; z; equation x + y = z", 0, api.OK},
		{"x in V; y in A; z; equation x = z", 0, api.ErrNone},
		{"z; equation 0 = z", 0, api.ErrNone},
		{"z; equation z = 0", 0, api.ErrNone},
		{"z; equation der(z) = 0", 0, api.ErrNone},
		{"z; equation pre(z) = 0", 0, api.ErrNone},
		{"x in m6; equation x = 1; equation x^2 = 1", 0, api.OK},
		{"x in m6; equation x = x; equation x^2 = 0", 0, api.ErrLarge},
		{"x in m6; equation x = x^2", 0, api.ErrLarge},
		{"x; connect x x; when x < 1 set x = 2", -1, api.OK},
		{"equation x = 1", 0, api.ErrNone},
	} {
		at, err := Units(flatOf(x.model))
		if at != x.at || err != x.err {
			t.Errorf("Units of %s: %d %d", x.model, at, err)
		}
	}
}

// TestUnitsMany asks for the units of as many names as there may be, which with the time are more than an environment takes.
func TestUnitsMany(t *testing.T) {
	f := flatOf(times(64, "x@ in s;") + times(30, "equation x@ = time;") + "equation x63 = " + times(6, "(x1@ + x2@ + x3@ + x4@ + x5@) + ") + "time; equation x63 = x5^2")
	if at, err := Units(f); at != 31 || err != api.OK {
		t.Errorf("Units: %d %d", at, err)
	}
}
