package flat

import (
	"strconv"
	"strings"
	"testing"

	"isocline/api"
)

// wrong is a library whose class a cannot be flattened.
type wrong struct {
	text  string
	err   api.Errno
	where string
}

// refuse holds Flatten and Trouble of the first class of a library against what they should say.
func (x wrong) refuse(t *testing.T) {
	t.Helper()
	l := lib(x.text)
	if f, err := Flatten(l, l[0].Name); err != x.err || !same(f, api.Flat{}) {
		t.Errorf("Flatten of %q: %d, not %d, %s", x.text, err, x.err, show(f))
	}
	if s, err := Trouble(l, l[0].Name); err != x.err || s != x.where {
		t.Errorf("Trouble of %q: %s %d, not %s %d", x.text, s, err, x.where, x.err)
	}
}

// leaf are classes to be used by others.
const leaf = "\nmodel leaf; Real x; parameter Real k = 1; ."

func TestTroubleOfClasses(t *testing.T) {
	for _, x := range []wrong{
		// Of whole classes, with what stands over them, in the order in which they are met.
		{"model p.a; none u; .", api.ErrNone, "p.a"},
		{"model a; extends b; .\nmodel b; extends a; .", api.ErrLoop, "a"},
		{"model a; b u; b v; .\nmodel b; c w; d y; .\nmodel c; .\nmodel d; extends d; .", api.ErrLoop, "u.y"},
		{"model a; leaf u; b v[2]; .\nmodel b; extends none; Real x; ." + leaf, api.ErrNone, "v[1]"},
		{"model a; leaf u; c v[2]; .\nmodel c; b w[3]; .\nmodel b; leaf x; none y; ." + leaf, api.ErrNone, "v[1].w[1]"},
		{"model a; leaf u(y = 1); leaf v(x is leaf); ." + leaf, api.ErrNone, "u"},
		{"model a; leaf u(x = 1); leaf v(x is leaf); leaf w(y = 1); ." + leaf, api.ErrType, "v"},
		{"model a; b u(v.y = 1); b w(y = 1); .\nmodel b; leaf v; ." + leaf, api.ErrNone, "u.v"},
		{"model a; b u(v.y = 1); .\nmodel b; c v; .\nmodel c; .", api.ErrNone, "u.v"},
		{"model a; b u(v is c); .\nmodel b; leaf v; .\nmodel c; extends leaf; ." + leaf, api.ErrRule, "u"},
		{"model a; b u(v is c); .\nmodel b; replaceable leaf v; .\nmodel c; ." + leaf, api.ErrRule, "u"},
		{"model a; b u(v.x = 1); .\nmodel b; replaceable c v; .\nmodel c; extends c; Real x; .", api.ErrLoop, "u.v"},
		{"model a; b u; .\nmodel b; extends c(x = 1, y = 2); .\nmodel c; Real x; .", api.ErrNone, "u"},
		{"model a; b u; .\nmodel b; extends c; Real x; .\nmodel c; Real x; .", api.ErrTwice, "u"},
		{"model a; b u(v.a = 1, v.b = 1, v.c = 1, v.d = 1, v.e = 1); .\nmodel b; c v(f = 1, g = 1, h = 1, i = 1); .\nmodel c; Real a; Real b; Real c; Real d; Real e; Real f; Real g; Real h; Real i; .", api.ErrLarge, "u"},
		{"model a; b u(x = 1 / 0); leaf v(y = 1); .\nmodel b; b u; parameter Real x; ." + leaf, api.ErrNone, "v"},
		// A class that is met within itself.
		{"model a; a u; .", api.ErrLoop, "u"},
		{"model a; b u; .\nmodel b; c v[2]; .\nmodel c; Real x; b w[2]; .", api.ErrLoop, "u.v[1].w[1]"},
		{"model a; b u(v is a); .\nmodel b; replaceable c v; .\nmodel c; .", api.ErrLoop, "u.v"},
		{"model a; Real x when k < 1; parameter Real k; a u when 0 < 1; .", api.ErrLoop, "u"},
		{"model a; b v; a u; .\npartial b; ." + leaf, api.ErrLoop, "u"},
		{"model a; a u when v.k < 2; .\nmodel b; .", api.ErrLoop, "u"},
		{"model a; a u when k < k; Real x; parameter Real k; .", api.ErrLoop, "u"},
	} {
		x.refuse(t)
	}
	for s, want := range map[string]api.Errno{"b": api.ErrNone, "": api.ErrNone, "a": api.ErrTwice} {
		l := lib("model a; .")
		if s == "a" {
			l = append(l, l[0])
		}
		if f, err := Flatten(l, s); err != want || !same(f, api.Flat{}) {
			t.Errorf("Flatten of %q: %d", s, err)
		}
		if where, err := Trouble(l, s); err != want || where != s {
			t.Errorf("Trouble of %q: %s %d", s, where, err)
		}
	}
}

func TestTroubleOfRules(t *testing.T) {
	for _, x := range []wrong{
		// Partial classes.
		{"partial a; Real x; .", api.ErrRule, "a"},
		{"model a; b u; .\nmodel b; c v[2]; .\npartial c; .", api.ErrRule, "u.v[1]"},
		{"partial a; b u; .\npartial b; .", api.ErrRule, "u"},
		{"model a; b u(v is c); .\nmodel b; replaceable leaf v; .\npartial c; extends leaf; ." + leaf, api.ErrRule, "u.v"},
		// Components with OOuter, which come ahead of sizes and of what they should mean.
		{"model a; outer leaf o(x = 1); ." + leaf, api.ErrRule, "o"},
		{"model a; b u; .\nmodel b; outer leaf o[2](x = 1); ." + leaf, api.ErrRule, "u.o[1]"},
		{"model a; inner leaf o; b u(o.x = 2); .\nmodel b; outer leaf o; ." + leaf, api.ErrRule, "u.o"},
		{"model a; inner leaf o; b u; .\nmodel b; outer leaf o when 1 < 0; ." + leaf, api.ErrRule, "u.o"},
		{"model a; inner Real o; b u; .\nmodel b; outer Real o = 1; .", api.ErrRule, "u.o"},
		{"model a; inner Real o; b u(o = 1); .\nmodel b; outer Real o; .", api.ErrRule, "u.o"},
		{"model a; b u; c v; .\nmodel b; outer Real o; .\npartial c; " + times(8, "Real x@[8];") + " Real y; .", api.ErrRule, "v"},
		// No component with OInner, or another one.
		{"model a; outer Real o; .", api.ErrNone, "o"},
		{"model a; leaf o; c v; inner leaf u; .\nmodel c; outer leaf o[3]; inner leaf v; d w; .\nmodel d; outer leaf v; inner Real o; outer Real u; ." + leaf, api.ErrNone, "v.o[1]"},
		{"model a; inner leaf o; b u; c v; .\nmodel b; outer Real o; .\nmodel c; outer leaf q; ." + leaf, api.ErrNone, "v.q"},
		{"model a; inner leaf o; b u; .\nmodel b; outer Real o; ." + leaf, api.ErrType, "u.o"},
		{"model a; inner leaf o; b u; .\nmodel b; outer c o; .\nmodel c; extends leaf; ." + leaf, api.ErrType, "u.o"},
		{"model a; inner leaf o[2]; b u; .\nmodel b; outer leaf o; ." + leaf, api.ErrType, "u.o"},
		{"model a; inner leaf o; b u; .\nmodel b; outer leaf o[1]; ." + leaf, api.ErrType, "u.o[1]"},
		{"model a; parameter Real k = k; inner leaf o[3]; b u; .\nmodel b; outer leaf o[2]; ." + leaf, api.ErrType, "u.o[1]"},
		{"model a; inner leaf o; b u; .\nmodel b; inner leaf o[2]; c v; .\nmodel c; outer leaf o; ." + leaf, api.ErrType, "u.v.o"},
	} {
		x.refuse(t)
	}
}

func TestTroubleOfSizes(t *testing.T) {
	eight := times(8, "Real x@[8];")
	for _, x := range []wrong{
		{"model a; " + eight + " Real y; .", api.ErrLarge, "y"},
		{"model a; b u[3]; .\nmodel b; Real x[8]; Real y[8]; Real z[8]; .", api.ErrLarge, "u[3].z[1]"},
		{"model a; outer Real o; " + eight + " Real y when 0 < k; Real z when 1 < k; parameter Real k = 1; .", api.ErrLarge, "y"},
		// Of equations, links and whens the class in which they stand.
		{"model a; b u[7]; .\nmodel b; Real x; c v; " + times(14, "equation x = 1;") + " .\nmodel c; .", api.ErrLarge, "u[7]"},
		{"model a; b u[7]; b v; .\nmodel b; Real x; " + times(10, "connect x x; connect y x;") + " Real y when 1 < 0; c w; .\nmodel c; Real x; " + times(5, "connect x x;") + " .", api.ErrLarge, "u[7]"},
		{"model a; b u[7]; b v; .\nmodel b; Real x; " + times(10, "connect x x; connect y x;") + " Real y when 1 < 0; c w[2]; .\nmodel c; Real x; " + times(3, "connect x x;") + " .", api.ErrLarge, "u[7].w[1]"},
		{"model a; b u[7]; Real x; " + times(20, "when x < 1; end when;") + " .\nmodel b; Real x; " + times(11, "when x < 1; end when;") + " .", api.ErrLarge, "a"},
		{"model a; b u[7]; Real x; " + times(20, "initial x = 1;") + " .\nmodel b; Real x; " + times(11, "equation x = 1;") + " .", api.ErrLarge, "a"},
		// The place where something comes first in the walk counts, not in the lists of the result.
		{"model a; b u[7]; " + times(20, "equation time = 1;") + " c v; .\nmodel b; " + times(11, "equation time = 1;") + " .\nmodel c; d w; " + times(20, "equation time = 1;") + " .\nmodel d; " + eight + "Real y; .", api.ErrLarge, "v"},
		// Full names.
		{"model a; b abcdefghijklmnop; .\nmodel b; c abcdefghijklmnop; .\nmodel c; d abcdefghijklmnop; .\nmodel d; Real abcdefghi; Real abcdefghij; .", api.ErrLarge, strings.Repeat("abcdefghijklmnop.", 3) + "abcdefghij"},
		{"model a; b abcdefghijklmnop; .\nmodel b; c abcdefghijklmnop; .\nmodel c; d abcdefghijklmnop; .\nmodel d; e abcdefgh[2]; .\nmodel e; .", api.ErrLarge, strings.Repeat("abcdefghijklmnop.", 3) + "abcdefgh[1]"},
		{"model a; b abcdefghijklmnop; .\nmodel b; equation abcdefghijklmnop.abcdefghijklmnop.abcdefghi = 1; .", api.ErrNone, "abcdefghijklmnop"},
		{"model a; b abcdefghijklmnop; .\nmodel b; equation abcdefghijklmnop.abcdefghijklmnop.abcdefghij = 1; .", api.ErrLarge, "abcdefghijklmnop"},
		{"model a; b abcdefghijklmnop; .\nmodel b; equation 1 = 2 + der(abcdefghijklmnop.abcdefghijklmnop.abcdefghij); .", api.ErrLarge, "abcdefghijklmnop"},
		{"model a; b abcdefghijklmnop; .\nmodel b; connect x abcdefghijklmnop.abcdefghijklmnop.abcdefghij; .", api.ErrLarge, "abcdefghijklmnop"},
		{"model a; b abcdefghijklmnop; .\nmodel b; connect abcdefghijklmnop.abcdefghijklmnop.abcdefghij x; .", api.ErrLarge, "abcdefghijklmnop"},
		{"model a; b abcdefghijklmnop; .\nmodel b; when abcdefghijklmnop.abcdefghijklmnop.abcdefghij < 1; end when; .", api.ErrLarge, "abcdefghijklmnop"},
		{"model a; b abcdefghijklmnop; .\nmodel b; when 0 < 1; set abcdefghijklmnop.abcdefghijklmnop.abcdefghij = 1; end when; .", api.ErrLarge, "abcdefghijklmnop"},
		{"model a; b abcdefghijklmnop; .\nmodel b; when 0 < 1; set x = abcdefghijklmnop.abcdefghijklmnop.abcdefghij; end when; .", api.ErrLarge, "abcdefghijklmnop"},
		{"model a; b abcdefghijklmnop; .\nmodel b; Real x[2] = abcdefghijklmnop.abcdefghijklmnop.abcdefghij; .", api.ErrLarge, "abcdefghijklmnop.x[1]"},
		{"model a; b abcdefghijklmnop; .\nmodel b; Real x[2] when abcdefghijklmnop.abcdefghijklmnop.abcdefghij < 1; .", api.ErrLarge, "abcdefghijklmnop.x[1]"},
		// More than 1000 components: 8 + 64 + 512 and 416, and then one more.
		{"model a; b u[8]; f v[8]; g w; Real x; .\nmodel b; c u[8]; .\nmodel c; d u[8]; .\nmodel d; .\nmodel f; " + times(6, "d u@[8];") + " d k; d l; d m; .\nmodel g; .", api.ErrLarge, "w"},
		{"model a; b u[8]; .\nmodel b; c u[8]; .\nmodel c; d u[8]; .\nmodel d; e u[8]; .\nmodel e; outer Real o; .", api.ErrLarge, "u[2].u[6].u[6].u[3]"},
		// What comes behind them is not met, what is OOuter does not count.
		{"model a; b u[8]; a v; .\nmodel b; c u[8]; .\nmodel c; d u[8]; .\nmodel d; e u[8]; .\nmodel e; .", api.ErrLarge, "u[2].u[6].u[6].u[3]"},
	} {
		x.refuse(t)
	}
	// 1 + 2 * 8 * 57 + 80 + 7 are 1000.
	outer := "model a; inner b o; f v[8]; f w[8]; " + times(10, "b x@[8];") + times(7, "b y@;") + " .\nmodel f; outer b o; " + times(7, "b u@[8];") + " .\nmodel b; ."
	if s, err := Trouble(lib(outer), "a"); err != api.OK {
		t.Errorf("components with OOuter count: %s %d", s, err)
	}
	wrong{strings.Replace(outer, "y0;", "y0; b z;", 1), api.ErrLarge, "y6"}.refuse(t)
}

func TestTroubleOfValues(t *testing.T) {
	for _, x := range []wrong{
		// What depends on itself.
		{"model a; parameter Real k = k; .", api.ErrLoop, "k"},
		{"model a; parameter Real k = l; parameter Real l = m; parameter Real m = n + l; parameter Real n = 1; .", api.ErrLoop, "l"},
		{"model a; parameter Real k = if 0 < 1 then 1 else k; .", api.ErrLoop, "k"},
		{"model a; parameter Real k[2] = k[2]; .", api.ErrLoop, "k[2]"},
		{"model a; Real x = x; .", api.ErrLoop, "x"},
		{"model a; Real x = k; parameter Real k = 2 * x; .", api.ErrLoop, "x"},
		{"model a; b u(k = v.l); b v(k = u.l); .\nmodel b; parameter Real k; parameter Real l = k; .", api.ErrLoop, "u.k"},
		{"model a; b u[2](k = u[1].k); .\nmodel b; parameter Real k; .", api.ErrLoop, "u[1].k"},
		{"model a; parameter Real k = 1 when k < 2; .", api.ErrLoop, "k"},
		{"model a; b u[2] when u[1].k < 1; .\nmodel b; parameter Real k = 3; .", api.ErrLoop, "u[1]"},
		{"model a; b u when v.k < 1; b v when u.k < 1; .\nmodel b; parameter Real k = 3; .", api.ErrLoop, "u"},
		{"model a; b u; .\nmodel b; c v when k < 1; parameter Real k = v.w.k; .\nmodel c; b2 w; .\nmodel b2; parameter Real k = 3; .", api.ErrLoop, "u.v"},
		{"model a; inner parameter Real o = u.k; b u; .\nmodel b; outer parameter Real o; parameter Real k = o; .", api.ErrLoop, "o"},
		{"model a; parameter Real i = l; parameter Real k = l + m; parameter Real l = k; parameter Real m = k; parameter Real p; Real x = q; equation z = 1; .", api.ErrLoop, "k"},
		// A condition that depends on itself is not false.
		{"model a; b u when u.k < 1; parameter Real l = u.k; .\nmodel b; a v; parameter Real k = 3; .", api.ErrLoop, "u.v"},
		// What is named is no parameter.
		{"model a; parameter Real k = l; Real l = 1; .", api.ErrNone, "k"},
		{"model a; parameter Real k = 1 / 0; Real x = y; Real y; .", api.ErrNone, "x"},
		{"model a; discrete Real d = 1; Real x[2] = d; .", api.ErrNone, "x[1]"},
		{"model a; Real x = time; .", api.ErrNone, "x"},
		{"model a; parameter Real k = 1; parameter Real l = pre(k); .", api.ErrNone, "l"},
		{"model a; parameter Real k = 1; parameter Real l = der(k); .", api.ErrNone, "l"},
		{"model a; Real x = pre(x); .", api.ErrNone, "x"},
		{"model a; parameter Real k = if 0 < 1 then 1 else none; .", api.ErrNone, "k"},
		{"model a; Real x when 1 < 0 and none < 1; .", api.ErrNone, "x"},
		{"model a; leaf u[2] when x < 1; Real x; ." + leaf, api.ErrNone, "u[1]"},
		{"model a; leaf u[2]; parameter Real k = u.k; ." + leaf, api.ErrNone, "k"},
		{"model a; leaf u[2]; parameter Real k = u[3].k; ." + leaf, api.ErrNone, "k"},
		{"model a; leaf u[2]; parameter Real k = u[01].k; ." + leaf, api.ErrNone, "k"},
		{"model a; leaf u; parameter Real k = u[1].k; ." + leaf, api.ErrNone, "k"},
		{"model a; leaf u; parameter Real k = u; ." + leaf, api.ErrNone, "k"},
		{"model a; leaf u; parameter Real k = u.k.x; ." + leaf, api.ErrNone, "k"},
		{"model a; leaf u; parameter Real k = u..k; ." + leaf, api.ErrNone, "k"},
		{"model a; leaf u when 1 < 0; parameter Real k = u.k; ." + leaf, api.ErrNone, "k"},
		{"model a; parameter Real l = 1 when 1 < 0; parameter Real k = l; .", api.ErrNone, "k"},
		{"model a; inner leaf o; b u; parameter Real k = u.o.k; .\nmodel b; outer leaf o; ." + leaf, api.ErrNone, "k"},
		{"model a; parameter Real k = 1; leaf u(x = k); b v; .\nmodel b; leaf u(x = k); ." + leaf, api.ErrNone, "v.u.x"},
		{"model a; leaf v; parameter Real k = 1; leaf u(k = l); .\nmodel leaf; parameter Real k = 1; parameter Real l = 2; .", api.ErrNone, "u.k"},
		// No value.
		{"model a; parameter Real k; .", api.ErrFit, "k"},
		{"model a; parameter Real k = l; parameter Real l[2]; parameter Real m = l[2]; .", api.ErrNone, "k"},
		{"model a; parameter Real k = l[1] / 0; parameter Real l[2]; parameter Real m = l[2]; .", api.ErrFit, "l[1]"},
		{"model a; parameter Real k = l; parameter Real l = 0^-1; .", api.ErrFit, "l"},
		{"model a; leaf u(x = 1 / 0); ." + leaf, api.ErrFit, "u.x"},
		{"model a; leaf u[2] when 1 / 0 < 1; ." + leaf, api.ErrFit, "u[1]"},
		{"model a; Real x when 0 < 1 / k; parameter Real k; .", api.ErrFit, "k"},
		{"model a; parameter Real k = if 0 < 1 then 1 / 0 else l; parameter Real l; .", api.ErrFit, "l"},
		{"model a; parameter Real k = 1000000000000 * 10; parameter Real l = 1 / 0; .", api.ErrFit, "l"},
		// Values that are not representable.
		{"model a; parameter Real k = 1000000000000 * 10; parameter Real l = 1 / (k - k); .", api.ErrLarge, "k"},
		{"model a; parameter Real k = 1 / l; parameter Real l = 1000000000000 * 10; Real x[2] = l / 10; .", api.ErrLarge, "l"},
		{"model a; Real x = 1000000000000 + 1; .", api.ErrLarge, "x"},
		{"model a; Real x when ((1000000000000^6)^6)^6 < 1; equation z = 1; .", api.ErrLarge, "x"},
		{"model a; leaf u when l.k < 1; leaf l(k = 1000000 * 10000000); .\nmodel leaf; parameter Real k = 1; none v when k < 5; .", api.ErrNone, "u"},
	} {
		x.refuse(t)
	}
}

// TestTroubleOfResults asks for what Validate finds wrong with the flat model.
func TestTroubleOfResults(t *testing.T) {
	for _, x := range []wrong{
		{"model a; equation x = 1; .", api.ErrNone, "a"},
		{"model a; leaf u[2]; equation 1 = u[3].x; ." + leaf, api.ErrNone, "a"},
		{"model a; b u[2]; .\nmodel b; Real x; equation x = y; .", api.ErrNone, "u[1]"},
		{"model a; leaf u when 1 < 0; equation 1 = u.x; ." + leaf, api.ErrNone, "a"},
		{"model a; b u; .\nmodel b; leaf u when 1 < 0; when u.x < 1; end when; ." + leaf, api.ErrNone, "u"},
		{"model a; b u; .\nmodel b; leaf u when 1 < 0; Real x; when x < 1; set u.x = 1; end when; ." + leaf, api.ErrNone, "u"},
		{"model a; b u; .\nmodel b; Real x; connect x y; .", api.ErrNone, "u"},
		{"model a; b u; .\nmodel b; leaf x[2]; connect x[1] x; ." + leaf, api.ErrNone, "u"},
		{"model a; b u; .\nmodel b; Real x[2]; connect x[1] x; .", api.ErrNone, "u"},
		{"model a; leaf u; equation der(u.k) = 1; ." + leaf, api.ErrNone, "a"},
		{"model a; discrete Real d; equation der(d) = 1; .", api.ErrNone, "a"},
		{"model a; equation time.x = 1; .", api.ErrNone, "a"},
		{"model a; leaf u; equation u = 1; ." + leaf, api.ErrNone, "a"},
		{"model a; inner leaf o; b u; equation u.o.x = 1; .\nmodel b; outer leaf o; ." + leaf, api.ErrNone, "a"},
		{"model a; inner leaf o when 1 < 0; b u; .\nmodel b; outer leaf o; equation o.x = 1; ." + leaf, api.ErrNone, "u"},
		// The first component in the order of the walk, whatever is wrong with it; the class itself only if it is no component's.
		{"model a; b u; equation z = 1; .\nmodel b; c v; when z < 1; end when; .\nmodel c; connect z z; .", api.ErrNone, "u"},
		{"model a; b u; equation z = 1; .\nmodel b; c v; .\nmodel c; connect z z; .", api.ErrNone, "u.v"},
		{"model a; b u; c v; .\nmodel b; when 0 < 1; set z = 1; end when; .\nmodel c; equation z = 1; .", api.ErrNone, "u"},
	} {
		x.refuse(t)
	}
}

// TestTroubleOfMany asks a condition for a value that depends on many more components than there may be, and one that depends on itself in many ways.
func TestTroubleOfMany(t *testing.T) {
	var l []string
	for i := range 59 {
		l = append(l, strings.NewReplacer("@", strconv.Itoa(i), "#", strconv.Itoa(i+1)).Replace("model c@; Real x when 1 < p; parameter Real p = u[1].p + u[2].p + u[3].p; c# u[8] when q < 2; parameter Real q = 1; ."))
	}
	_, err := Flatten(lib(strings.Join(append(l, "model c59; parameter Real p = 1; ."), "\n")), "c0")
	if err != api.ErrLarge {
		t.Errorf("Flatten: %d", err)
	}
	circle := "model a; " + times(30, "parameter Real p@ = p0 + p1 + p5 + p29;") + times(8, "Real x@ when p@ < 1 and 0 < p5;") + " equation z = 1; ."
	wrong{circle, api.ErrLoop, "p0"}.refuse(t)
	wrong{strings.Replace(circle, "parameter", "Real y = p7; parameter Real q = p3; parameter", 1), api.ErrLoop, "p0"}.refuse(t)
}
