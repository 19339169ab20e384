// Package exact has whole numbers, ratios, polynomials and matrices without a limit, for the inner arithmetic of the layers.
// Its numbers are values: no call changes one.
package exact

import "isocline/api"

// Ratio is a rational number: n divided by d, in lowest terms, d above 0.
// Its zero value is no number; ratios are made by the functions of this package.
type Ratio struct {
	n, d Int
}

// NewRatio returns n divided by d, which is not 0.
func NewRatio(n, d Int) Ratio {
	g := n.Gcd(d)
	if d.Sign() < 0 {
		g = g.Neg()
	}
	return Ratio{n.Quo(g), d.Quo(g)}
}

// Of returns x, which rat.Validate takes.
func Of(x api.Rat) Ratio {
	return Ratio{NewInt(x.N), NewInt(x.D)}
}

// Whole returns n.
func Whole(n int) Ratio {
	return Ratio{NewInt(n), NewInt(1)}
}

// Rat returns x as a number: ErrLarge if it is not representable.
func (x Ratio) Rat() (api.Rat, api.Errno) {
	n, small := x.n.Small()
	d, smallToo := x.d.Small()
	if !small || !smallToo || n < -api.MaxNum || n > api.MaxNum || d > api.MaxNum {
		return api.Rat{}, api.ErrLarge
	}
	return api.Rat{N: int(n), D: int(d)}, api.OK
}

// Add returns x + y.
func (x Ratio) Add(y Ratio) Ratio {
	// What n and the common denominator have in common divides g: no divisor of large numbers is needed.
	g := x.d.Gcd(y.d)
	xd, yd := x.d.Quo(g), y.d.Quo(g)
	n := x.n.Mul(yd).Add(y.n.Mul(xd))
	h := g.Gcd(n)
	return Ratio{n.Quo(h), xd.Mul(y.d.Quo(h))}
}

// Neg returns -x.
func (x Ratio) Neg() Ratio {
	return Ratio{x.n.Neg(), x.d}
}

// Sub returns x - y.
func (x Ratio) Sub(y Ratio) Ratio {
	return x.Add(y.Neg())
}

// Mul returns x * y.
func (x Ratio) Mul(y Ratio) Ratio {
	g, h := x.n.Gcd(y.d), y.n.Gcd(x.d)
	return Ratio{x.n.Quo(g).Mul(y.n.Quo(h)), x.d.Quo(h).Mul(y.d.Quo(g))}
}

// Inverse returns 1 / x; x is not 0.
func (x Ratio) Inverse() Ratio {
	if x.n.Sign() < 0 {
		return Ratio{x.d.Neg(), x.n.Neg()}
	}
	return Ratio{x.d, x.n}
}

// Quo returns x / y; y is not 0.
func (x Ratio) Quo(y Ratio) Ratio {
	return x.Mul(y.Inverse())
}

// Power returns the n-th power of x, which is not 0 if n is below 0; the power with n = 0 is 1.
func (x Ratio) Power(n int) Ratio {
	if n < 0 {
		return x.Inverse().Power(-n)
	}
	return Ratio{x.n.Power(n), x.d.Power(n)}
}

// Floor returns the greatest whole number that is at most x.
func (x Ratio) Floor() Int {
	return x.n.Floor(x.d)
}

// Sign returns -1, 0 or 1.
func (x Ratio) Sign() int {
	return x.n.Sign()
}

// Bits returns how many binary digits the numerator or the denominator has, the longer one of them.
func (x Ratio) Bits() int {
	return max(x.n.Bits(), x.d.Bits())
}

// Cmp returns -1, 0 or 1 as x is less than, equal to or greater than y.
func (x Ratio) Cmp(y Ratio) int {
	return x.n.Mul(y.d).Cmp(y.n.Mul(x.d))
}
