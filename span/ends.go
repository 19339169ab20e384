package span

import (
	"isocline/api"
	"isocline/exact"
)

// ends are the two ends of a span, the lesser one first, without a limit.
type ends [2]exact.Ratio

// of returns the ends of a span that Validate takes.
func of(x api.Span) ends {
	return ends{exact.Of(x.Lo), exact.Of(x.Hi)}
}

// point returns the ends of the span of x alone.
func point(x exact.Ratio) ends {
	return ends{x, x}
}

// around returns the ends of the least span that holds these numbers.
func around(first exact.Ratio, others ...exact.Ratio) ends {
	least, greatest := outmost(first, others...)
	return ends{least, greatest}
}

// outmost returns the least and the greatest value.
func outmost[T interface{ Cmp(T) int }](first T, others ...T) (least, greatest T) {
	least, greatest = first, first
	for _, x := range others {
		if x.Cmp(least) < 0 {
			least = x
		}
		if x.Cmp(greatest) > 0 {
			greatest = x
		}
	}
	return least, greatest
}

// span returns the span with these ends: ErrLarge if one of them is not representable.
func (x ends) span() (api.Span, api.Errno) {
	lo, e := x[0].Rat()
	if e != api.OK {
		return api.Span{}, e
	}
	hi, e := x[1].Rat()
	if e != api.OK {
		return api.Span{}, e
	}
	return api.Span{Lo: lo, Hi: hi}, api.OK
}

// outward returns x rounded outward.
func (x ends) outward(g int) ends {
	steps, under := exact.Whole(g), exact.NewInt(g)
	x[0] = exact.NewRatio(x[0].Mul(steps).Floor(), under)
	x[1] = exact.NewRatio(x[1].Mul(steps).Neg().Floor().Neg(), under)
	return x
}

func (x ends) plus(y ends) ends {
	return ends{x[0].Add(y[0]), x[1].Add(y[1])}
}

func (x ends) minus(y ends) ends {
	return ends{x[0].Sub(y[1]), x[1].Sub(y[0])}
}

func (x ends) times(y ends) ends {
	return around(x[0].Mul(y[0]), x[0].Mul(y[1]), x[1].Mul(y[0]), x[1].Mul(y[1]))
}

// over returns the quotients, for y that does not hold 0.
func (x ends) over(y ends) ends {
	return x.times(ends{y[1].Inverse(), y[0].Inverse()})
}

func (x ends) power(n int) ends {
	least, greatest := x[0].Power(n), x[1].Power(n)
	if nought := exact.Whole(0); x.hold(nought) {
		return around(least, greatest, nought.Power(n)) // even powers turn at 0
	}
	return around(least, greatest)
}

// hold reports whether v is from one end to the other.
func (x ends) hold(v exact.Ratio) bool {
	return x[0].Cmp(v) <= 0 && v.Cmp(x[1]) <= 0
}

// meet returns what is common to both, and whether there is anything.
func (x ends) meet(y ends) (ends, bool) {
	_, lo := outmost(x[0], y[0])
	hi, _ := outmost(x[1], y[1])
	return ends{lo, hi}, lo.Cmp(hi) <= 0
}

func (x ends) middle() exact.Ratio {
	return x[0].Add(x[1]).Quo(exact.Whole(2))
}
