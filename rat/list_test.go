package rat

import (
	"math/big"
	"math/rand"
	"slices"
	"testing"

	"isocline/api"
)

func overList(name string, f func([]api.Rat) (api.Rat, api.Errno), l []api.Rat, want api.Rat, err api.Errno) answer {
	return answer{name, func() (api.Rat, api.Errno) { return f(l) }, want, err}
}

func overLists(name string, a, b []api.Rat, want api.Rat, err api.Errno) answer {
	return answer{name, func() (api.Rat, api.Errno) { return Dot(a, b) }, want, err}
}

// row is n times the same number.
func row(n int, x api.Rat) []api.Rat { return slices.Repeat([]api.Rat{x}, n) }

func TestLists(t *testing.T) {
	most, bad := q(api.MaxNum, 1), q(2, 4)
	check(t, []answer{
		overList("nothing", Sum, nil, q(0, 1), api.OK),
		overList("empty", Sum, []api.Rat{}, q(0, 1), api.OK),
		overList("above the limit in between", Sum, []api.Rat{most, q(1, 1), q(-2, 1)}, q(api.MaxNum-1, 1), api.OK),
		overList("fine in between", Sum, []api.Rat{q(1, api.MaxNum), q(1, 999999999989), q(-1, api.MaxNum), q(-1, 999999999989)}, q(0, 1), api.OK),
		overList("large", Sum, []api.Rat{most, q(1, 1)}, api.Rat{}, api.ErrLarge),
		overList("longest", Sum, row(api.MaxRow, q(1, 2)), q(api.MaxRow/2, 1), api.OK),
		overList("too long", Sum, row(api.MaxRow+1, q(0, 1)), api.Rat{}, api.ErrLarge),
		overList("too long, ahead of a bad number", Sum, row(api.MaxRow+1, bad), api.Rat{}, api.ErrLarge),
		overList("bad number", Sum, []api.Rat{q(1, 1), bad}, api.Rat{}, api.ErrArg),
		overList("bad number ahead of a large sum", Sum, []api.Rat{most, most, bad}, api.Rat{}, api.ErrArg),

		overList("nothing", Product, nil, q(1, 1), api.OK),
		overList("with nought", Product, []api.Rat{most, most, q(0, 1)}, q(0, 1), api.OK),
		overList("above the limit in between", Product, []api.Rat{most, most, q(-1, api.MaxNum)}, q(-api.MaxNum, 1), api.OK),
		overList("large", Product, row(api.MaxRow, most), api.Rat{}, api.ErrLarge),
		overList("too long", Product, row(api.MaxRow+1, q(1, 1)), api.Rat{}, api.ErrLarge),
		overList("bad number", Product, []api.Rat{q(0, 1), bad}, api.Rat{}, api.ErrArg),

		overLists("nothing", nil, []api.Rat{}, q(0, 1), api.OK),
		overLists("plain", []api.Rat{q(1, 2), q(-2, 1)}, []api.Rat{q(4, 1), q(3, 4)}, q(1, 2), api.OK),
		overLists("above the limit in between", []api.Rat{most, most, q(1, 1)}, []api.Rat{most, q(-api.MaxNum, 1), q(7, 1)}, q(7, 1), api.OK),
		overLists("large", []api.Rat{most}, []api.Rat{most}, api.Rat{}, api.ErrLarge),
		overLists("lengths", []api.Rat{q(1, 2)}, nil, api.Rat{}, api.ErrFit),
		overLists("bad number ahead of lengths", nil, []api.Rat{bad}, api.Rat{}, api.ErrArg),
		overLists("too long ahead of a bad number", []api.Rat{bad}, row(api.MaxRow+1, q(1, 1)), api.Rat{}, api.ErrLarge),
		overLists("too long ahead of lengths", row(api.MaxRow+1, q(1, 1)), nil, api.Rat{}, api.ErrLarge),
		overLists("longest", row(api.MaxRow, q(1, 2)), row(api.MaxRow, q(2, 1)), q(api.MaxRow, 1), api.OK),
	})
}

func TestListsAgainstLibrary(t *testing.T) {
	r := rand.New(rand.NewSource(5))
	for range 2000 {
		n := r.Intn(8)
		a, b := make([]api.Rat, n), make([]api.Rat, n)
		sum, product, dot := new(big.Rat), big.NewRat(1, 1), new(big.Rat)
		for i := range n {
			a[i], b[i] = number(r), number(r)
			sum.Add(sum, toBig(a[i]))
			product.Mul(product, toBig(a[i]))
			dot.Add(dot, new(big.Rat).Mul(toBig(a[i]), toBig(b[i])))
		}
		keptA, keptB := slices.Clone(a), slices.Clone(b)
		s, es := fromBig(sum)
		p, ep := fromBig(product)
		d, ed := fromBig(dot)
		check(t, []answer{overList("Sum", Sum, a, s, es), overList("Product", Product, a, p, ep), overLists("Dot", a, b, d, ed)})
		if !slices.Equal(a, keptA) || !slices.Equal(b, keptB) {
			t.Fatal("an argument was changed")
		}
	}
}

// TestLongExact takes away again, in another order, what a long list adds.
func TestLongExact(t *testing.T) {
	r := rand.New(rand.NewSource(6))
	for range 50 {
		var l []api.Rat
		for range (api.MaxRow - 2) / 2 {
			x := q(r.Intn(api.MaxNum)-api.MaxNum/2, api.MaxNum-r.Intn(1000000))
			x, _ = Make(x.N, x.D)
			l = append(l, x, negative(x))
		}
		l = append(l, q(5, 7))
		r.Shuffle(len(l), func(i, j int) { l[i], l[j] = l[j], l[i] })
		check(t, []answer{overList("Sum", Sum, l, q(5, 7), api.OK)})
	}
}
