package expr

import (
	"math"
	"slices"
	"strings"
	"testing"

	"isocline/api"
)

// chainOf is a name under ENeg, n nodes in all, each in the one around it.
func chainOf(n int) api.Expr {
	e := name("x")
	for range n - 1 {
		e = node(api.ENeg, e)
	}
	return e
}

// bushOf is a sum with n nodes, n odd, not deeper than it has to be.
func bushOf(n int) api.Expr {
	if n == 1 {
		return name("x")
	}
	left := (n - 1) / 2
	left -= 1 - left%2
	return node(api.EAdd, bushOf(left), bushOf(n-1-left))
}

func TestValidateSize(t *testing.T) {
	deep := chainOf(12)
	for n, want := range map[int]api.Errno{1: api.OK, 12: api.OK, 13: api.ErrLarge, 1000: api.ErrLarge} {
		if err := Validate(chainOf(n)); err != want {
			t.Errorf("Validate of a chain of %d: %v", n, err)
		}
	}
	for n, want := range map[int]api.Errno{79: api.OK, 81: api.ErrLarge, 1001: api.ErrLarge} {
		if err := Validate(bushOf(n)); err != want {
			t.Errorf("Validate of a bush of %d: %v", n, err)
		}
	}
	if err := Validate(node(api.ENeg, bushOf(79))); err != api.OK {
		t.Errorf("Validate of 80 nodes: %v", err)
	}
	if err := Validate(node(api.ENeg, deep)); err != api.ErrLarge {
		t.Errorf("Validate of 13 nodes within each other: %v", err)
	}
	// Size comes ahead of nodes that are none, also where there are too many kids or kids that hold themselves.
	ring := make([]api.Expr, 2)
	ring[0] = api.Expr{Op: api.EAdd, Kids: ring}
	ring[1] = ring[0]
	for _, e := range []api.Expr{
		{Op: 99, Kids: make([]api.Expr, 80)}, {Kids: make([]api.Expr, 1000000)}, {Op: api.EAdd, Kids: ring}, {Op: 77, Kids: []api.Expr{deep}},
	} {
		if err := Validate(e); err != api.ErrLarge {
			t.Errorf("Validate of %d kids: %v", len(e.Kids), err)
		}
	}
}

func TestValidateNodes(t *testing.T) {
	x, two := name("x"), api.Expr{Op: api.EConst, N: q(2, 1)}
	less := node(api.ELess, x, two)
	good := []api.Expr{
		x, two, {Op: api.EDer, Name: "x"}, {Op: api.EPre, Name: "x"}, node(api.ENeg, x), node(api.EAbs, x), node(api.ENot, less),
		node(api.EAdd, x, two), node(api.ESub, x, two), node(api.EMul, x, two), node(api.EDiv, x, two), node(api.EMin, x, two), node(api.EMax, x, two),
		less, node(api.ELeq, x, two), node(api.EAnd, less, less), node(api.EOr, less, less), pow(x, 6), pow(x, -6), pow(x, 0), node(api.EIf, less, x, two),
	}
	ops := map[int]bool{}
	for _, e := range good {
		ops[e.Op] = true
		if err := Validate(e); err != api.OK {
			t.Errorf("Validate of %v: %v", e, err)
		}
		bad := []api.Expr{{Op: e.Op, Name: "1", N: e.N, Kids: e.Kids}, {Op: e.Op, Name: e.Name, N: q(7, 1), Kids: append(slices.Clone(e.Kids), x)}}
		if len(e.Kids) > 0 {
			bad = append(bad, api.Expr{Op: e.Op, N: e.N, Kids: e.Kids[1:]}, api.Expr{Op: e.Op, N: e.N, Kids: append(slices.Clone(e.Kids), x)})
		}
		if isNamed(e.Op) {
			bad = append(bad, api.Expr{Op: e.Op}, api.Expr{Op: e.Op, Name: "min"}, api.Expr{Op: e.Op, Name: "x", N: q(0, 1)})
		} else {
			bad = append(bad, api.Expr{Op: e.Op, Name: "x", N: e.N, Kids: e.Kids})
		}
		if e.Op != api.EConst && e.Op != api.EPow {
			bad = append(bad, api.Expr{Op: e.Op, Name: e.Name, N: q(0, 1), Kids: e.Kids}, api.Expr{Op: e.Op, Name: e.Name, N: q(0, 2), Kids: e.Kids})
		}
		for _, b := range bad {
			// A node that is none is found at the top and below; where it would be of the wrong sort, too.
			for _, f := range []api.Expr{b, node(api.EAdd, x, b), node(api.ENot, node(api.EAbs, b)), node(api.EAdd, less, b)} {
				if err := Validate(f); err != api.ErrArg {
					t.Errorf("Validate of %v: %v", f, err)
				}
			}
		}
	}
	if len(ops) != 19 {
		t.Errorf("%d Ops", len(ops))
	}
	for _, op := range []int{0, -1, 20, 1000, math.MinInt, math.MaxInt} {
		for _, e := range []api.Expr{{Op: op}, {Op: op, Name: "x"}, {Op: op, Kids: []api.Expr{x}}, {Op: op, Kids: []api.Expr{x, x}}} {
			if err := Validate(e); err != api.ErrArg {
				t.Errorf("Validate of %v: %v", e, err)
			}
		}
	}
	for _, n := range []api.Rat{{}, q(2, 4), q(1, 0), q(1, -2), q(0, 2), q(api.MaxNum+1, 1), q(1, api.MaxNum+1), q(math.MinInt, math.MinInt)} {
		for _, e := range []api.Expr{{Op: api.EConst, N: n}, {Op: api.EPow, N: n, Kids: []api.Expr{x}}} {
			if err := Validate(e); err != api.ErrArg {
				t.Errorf("Validate of %v: %v", e, err)
			}
		}
	}
	for _, n := range []api.Rat{q(7, 1), q(-7, 1), q(1, 2), q(math.MaxInt, 1), q(math.MinInt, 1), q(6, 6), q(0, 0)} {
		if err := Validate(api.Expr{Op: api.EPow, N: n, Kids: []api.Expr{x}}); err != api.ErrArg {
			t.Errorf("Validate of the power %v: %v", n, err)
		}
	}
}

func TestValidateNames(t *testing.T) {
	long := strings.Repeat("n", api.MaxName)
	for s, want := range map[string]api.Errno{
		"x": api.OK, "Z": api.OK, "a1_.[]": api.OK, "if.x": api.OK, "ifx": api.OK, "If": api.OK, "min_": api.OK, "time": api.OK, "x..": api.OK, long: api.OK,
		"": api.ErrArg, "1x": api.ErrArg, "_x": api.ErrArg, ".x": api.ErrArg, "[x": api.ErrArg, "x y": api.ErrArg, " x": api.ErrArg, "x-": api.ErrArg,
		"der(x)": api.ErrArg, "xé": api.ErrArg, "é": api.ErrArg, "x\n": api.ErrArg, "x\x00": api.ErrArg, long + "n": api.ErrArg,
		"if": api.ErrArg, "then": api.ErrArg, "else": api.ErrArg, "or": api.ErrArg, "and": api.ErrArg, "not": api.ErrArg,
		"der": api.ErrArg, "pre": api.ErrArg, "abs": api.ErrArg, "min": api.ErrArg, "max": api.ErrArg,
	} {
		for _, op := range []int{api.EName, api.EDer, api.EPre} {
			if err := Validate(api.Expr{Op: op, Name: s}); err != want {
				t.Errorf("Validate of the name %q: %v", s, err)
			}
		}
	}
}

// TestValidateSorts puts conditions and numeric expressions in all places.
func TestValidateSorts(t *testing.T) {
	x := name("x")
	less := node(api.ELess, x, x)
	for op, kids := range kidCount {
		for i := range max(kids, 0) {
			e := api.Expr{Op: op}
			if op == api.EPow {
				e.N = q(2, 1)
			}
			for range kids {
				e.Kids = append(e.Kids, x)
			}
			switch op {
			case api.ENot, api.EAnd, api.EOr:
				e.Kids = slices.Repeat([]api.Expr{less}, kids)
			case api.EIf:
				e.Kids[0] = less
			}
			if err := Validate(e); err != api.OK {
				t.Errorf("Validate of %v: %v", e, err)
			}
			e.Kids = slices.Clone(e.Kids)
			if e.Kids[i].Op == api.EName {
				e.Kids[i] = less
			} else {
				e.Kids[i] = x
			}
			if err := Validate(e); err != api.ErrType {
				t.Errorf("Validate of %v: %v", e, err)
			}
			if err := Validate(node(api.ENot, node(api.ELess, x, e))); err != api.ErrType {
				t.Errorf("Validate below of %v: %v", e, err)
			}
		}
	}
	if err := Validate(node(api.EIf, x, x, x)); err != api.ErrType {
		t.Errorf("Validate of a numeric condition: %v", err)
	}
}
