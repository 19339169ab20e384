package mat

import (
	"math"
	"math/big"
	"math/rand"
	"slices"
	"testing"

	"isocline/api"
)

func TestValidate(t *testing.T) {
	full := slices.Repeat(whole(1), api.MaxSide*api.MaxSide)
	for _, c := range []struct {
		m   api.Mat
		err api.Errno
	}{
		{api.Mat{}, api.OK},
		{api.Mat{R: 3}, api.OK},
		{api.Mat{C: api.MaxSide}, api.OK},
		{square(1, 2, 3, 4), api.OK},
		{oblong(2, 1, 2, 3, 4, 5, 6), api.OK},
		{api.Mat{R: api.MaxSide, C: api.MaxSide, V: full}, api.OK},
		{api.Mat{R: 1, C: 1, V: []api.Rat{q(-api.MaxNum, 1)}}, api.OK},
		{api.Mat{R: -1}, api.ErrArg},
		{api.Mat{C: -1}, api.ErrArg},
		{api.Mat{R: -1, C: -1, V: whole(1)}, api.ErrArg},
		{api.Mat{R: api.MaxSide + 1}, api.ErrArg},
		{api.Mat{C: api.MaxSide + 1}, api.ErrArg},
		{api.Mat{R: 1, C: api.MaxSide + 1, V: full[:api.MaxSide+1]}, api.ErrArg},
		{api.Mat{R: math.MaxInt, C: math.MaxInt, V: whole(1)}, api.ErrArg},
		{api.Mat{R: math.MinInt, C: 2}, api.ErrArg},
		{api.Mat{R: 2, C: 2, V: whole(1, 2, 3)}, api.ErrArg},
		{api.Mat{R: 2, C: 2, V: whole(1, 2, 3, 4, 5)}, api.ErrArg},
		{api.Mat{R: 0, C: 2, V: whole(1)}, api.ErrArg},
		{api.Mat{R: 1, C: 2, V: []api.Rat{q(1, 1), q(2, 4)}}, api.ErrArg},
		{api.Mat{R: 1, C: 1, V: []api.Rat{{}}}, api.ErrArg},
		{api.Mat{R: 1, C: 1, V: []api.Rat{q(api.MaxNum+1, 1)}}, api.ErrArg},
	} {
		if e := Validate(c.m); e != c.err {
			t.Errorf("%v: %v, not %v", c.m, e, c.err)
		}
	}
}

func TestAddAndMul(t *testing.T) {
	a, b := oblong(2, 1, 2, 3, 4, 5, 6), oblong(3, 1, 0, 0, 1, -1, 2)
	most := api.Mat{R: 1, C: 1, V: []api.Rat{q(api.MaxNum, 1)}}
	for _, c := range []struct {
		name      string
		f         func(m, n api.Mat) (api.Mat, api.Errno)
		m, n, out api.Mat
		err       api.Errno
	}{
		{"Add", Add, a, a, oblong(2, 2, 4, 6, 8, 10, 12), api.OK},
		{"Add", Add, api.Mat{}, api.Mat{}, api.Mat{}, api.OK},
		{"Add", Add, api.Mat{C: 4}, api.Mat{C: 4}, api.Mat{C: 4}, api.OK},
		{"Add", Add, a, b, api.Mat{}, api.ErrFit},
		{"Add", Add, a, oblong(2, 1, 2, 3, 4), api.Mat{}, api.ErrFit},
		{"Add", Add, oblong(1, 1, 2), a, api.Mat{}, api.ErrFit},
		{"Add", Add, api.Mat{R: 1}, api.Mat{C: 1}, api.Mat{}, api.ErrFit},
		{"Add", Add, oblong(2, 1, 2, 3, 4, 5, api.MaxNum), a, api.Mat{}, api.ErrLarge},
		{"Mul", Mul, a, b, oblong(2, -2, 8, -2, 17), api.OK},
		{"Mul", Mul, b, a, square(1, 2, 3, 4, 5, 6, 7, 8, 9), api.OK},
		{"Mul", Mul, a, a, api.Mat{}, api.ErrFit},
		{"Mul", Mul, api.Mat{R: 2}, api.Mat{C: 3}, oblong(2, 0, 0, 0, 0, 0, 0), api.OK},
		{"Mul", Mul, api.Mat{C: 2}, oblong(2, 1, 2, 3, 4, 5, 6), api.Mat{C: 3}, api.OK},
		{"Mul", Mul, a, api.Mat{R: 3}, api.Mat{R: 2}, api.OK},
		{"Mul", Mul, api.Mat{}, api.Mat{}, api.Mat{}, api.OK},
		{"Mul", Mul, api.Mat{R: 2}, api.Mat{R: 2}, api.Mat{}, api.ErrFit},
		{"Mul", Mul, most, most, api.Mat{}, api.ErrLarge},
		// Only what is in between is large.
		{"Mul", Mul, oblong(1, api.MaxNum, api.MaxNum, 1), oblong(3, api.MaxNum, -api.MaxNum, 7), oblong(1, 7), api.OK},
		{"Mul", Mul, api.Mat{R: 1, C: 2, V: []api.Rat{q(1, 999999999989), q(1, 999999999961)}}, api.Mat{R: 2, C: 1, V: []api.Rat{q(999999999989, 1), q(999999999961, 1)}}, oblong(1, 2), api.OK},
	} {
		m, e := c.f(c.m, c.n)
		sameMat(t, c.name, m, e, c.out, c.err)
	}
}

func TestScaleAndTurn(t *testing.T) {
	a := oblong(2, 1, 2, 3, 4, 5, 6)
	for _, c := range []struct {
		m   api.Mat
		x   api.Rat
		out api.Mat
		err api.Errno
	}{
		{a, q(-1, 1), oblong(2, -1, -2, -3, -4, -5, -6), api.OK},
		{oblong(1, 1, 2), q(1, 2), api.Mat{R: 1, C: 2, V: []api.Rat{q(1, 2), q(1, 1)}}, api.OK},
		{a, q(0, 1), oblong(2, 0, 0, 0, 0, 0, 0), api.OK},
		{api.Mat{R: 5}, q(2, 1), api.Mat{R: 5}, api.OK},
		{a, q(api.MaxNum, 1), api.Mat{}, api.ErrLarge},
		{a, q(1, api.MaxNum), api.Mat{}, api.OK},
		{a, q(2, 2), api.Mat{}, api.ErrArg},
	} {
		if c.x.D == api.MaxNum {
			c.out = api.Mat{R: 2, C: 3, V: []api.Rat{c.x, q(1, api.MaxNum/2), q(3, api.MaxNum), q(1, api.MaxNum/4), q(1, api.MaxNum/5), q(3, api.MaxNum/2)}}
		}
		m, e := Scale(c.m, c.x)
		sameMat(t, "Scale", m, e, c.out, c.err)
	}
	for _, c := range [][2]api.Mat{{a, oblong(3, 1, 4, 2, 5, 3, 6)}, {api.Mat{R: 2}, api.Mat{C: 2}}, {api.Mat{}, api.Mat{}}, {oblong(1, 1, 2, 3), oblong(3, 1, 2, 3)}, {square(1, 2, 3, 4), square(1, 3, 2, 4)}} {
		m, e := Turn(c[0])
		sameMat(t, "Turn", m, e, c[1], api.OK)
	}
}

func TestPower(t *testing.T) {
	fibonacci, turn := square(1, 1, 1, 0), square(0, -1, 1, 0)
	long := api.Mat{R: 2, C: 2, V: []api.Rat{q(0, 1), q(api.MaxNum, 999999999989), q(999999999989, api.MaxNum), q(0, 1)}}
	for _, c := range []struct {
		m   api.Mat
		n   int
		out api.Mat
		err api.Errno
	}{
		{fibonacci, 0, square(1, 0, 0, 1), api.OK},
		{fibonacci, 1, fibonacci, api.OK},
		{fibonacci, 2, square(2, 1, 1, 1), api.OK},
		{fibonacci, 10, square(89, 55, 55, 34), api.OK},
		{fibonacci, 57, square(591286729879, 365435296162, 365435296162, 225851433717), api.OK},
		{fibonacci, 58, square(956722026041, 591286729879, 591286729879, 365435296162), api.OK},
		{fibonacci, 59, api.Mat{}, api.ErrLarge},
		{fibonacci, 60, api.Mat{}, api.ErrLarge},
		{turn, 60, square(1, 0, 0, 1), api.OK},
		{turn, 59, square(0, 1, -1, 0), api.OK},
		{long, 60, square(1, 0, 0, 1), api.OK},
		{long, 59, long, api.OK},
		{square(0, 0, 0, 0), 0, square(1, 0, 0, 1), api.OK},
		{square(0, 0, 0, 0), 60, square(0, 0, 0, 0), api.OK},
		{square(0, api.MaxNum, 0, 0), 2, square(0, 0, 0, 0), api.OK},
		{api.Mat{}, 0, api.Mat{}, api.OK},
		{api.Mat{}, 60, api.Mat{}, api.OK},
		{scaled(12, q(api.MaxNum, 1)), 1, scaled(12, q(api.MaxNum, 1)), api.OK},
		{scaled(12, q(api.MaxNum, 1)), 2, api.Mat{}, api.ErrLarge},
		{scaled(2, q(1, 1000000)), 2, scaled(2, q(1, api.MaxNum)), api.OK},
		{scaled(2, q(-1, 1000000)), 3, api.Mat{}, api.ErrLarge},
		{fibonacci, -1, api.Mat{}, api.ErrArg},
		{fibonacci, 61, api.Mat{}, api.ErrArg},
		{fibonacci, math.MinInt, api.Mat{}, api.ErrArg},
		{oblong(1, 1, 2), 61, api.Mat{}, api.ErrArg},
		{oblong(1, 1, 2), 0, api.Mat{}, api.ErrFit},
		{oblong(2, 1, 2), 1, api.Mat{}, api.ErrFit},
		{api.Mat{R: 1}, 2, api.Mat{}, api.ErrFit},
	} {
		m, e := Power(c.m, c.n)
		sameMat(t, "Power", m, e, c.out, c.err)
	}
}

func TestSumsAgainstLibrary(t *testing.T) {
	r := rand.New(rand.NewSource(1))
	for range 2000 {
		a, b, c := r.Intn(5), r.Intn(5), r.Intn(5)
		m, n, o := random(r, a, b), random(r, a, b), random(r, b, c)
		got, e := Add(m, n)
		want, err := toPlain(m).add(toPlain(n), big.NewRat(1, 1)).numbers(b)
		sameMat(t, "Add", got, e, want, err)
		got, e = Mul(m, o)
		product := toPlain(m).mul(toPlain(o))
		if b == 0 {
			product = newPlain(a, c)
		}
		want, err = product.numbers(c)
		sameMat(t, "Mul", got, e, want, err)
	}
}

func TestPowerAgainstLibrary(t *testing.T) {
	r := rand.New(rand.NewSource(2))
	count := map[api.Errno]int{}
	for range 250 {
		n := r.Intn(5) + 1
		m := random(r, n, n)
		if r.Intn(2) == 0 { // one that does not grow
			m = scaled(n, q(0, 1))
			for i := range n {
				m.V[i*n+(i+1)%n] = q(1-2*r.Intn(2), 1)
			}
			m = similar(r, m)
		}
		p := unit(n)
		for k := range 25 {
			got, e := Power(m, k)
			want, err := p.numbers(n)
			sameMat(t, "Power", got, e, want, err)
			count[e]++
			p = p.mul(toPlain(m))
		}
	}
	if count[api.OK] < 2000 || count[api.ErrLarge] < 1000 {
		t.Errorf("only %v", count)
	}
}
