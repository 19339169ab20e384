package exact

import (
	"cmp"
	"math"
	"math/bits"
)

// Int is a whole number without a limit; its zero value is 0.
type Int struct {
	small int64 // the number itself, if there are no limbs
	neg   bool
	limbs nat // the absolute value, only where it is above math.MaxInt64
}

// NewInt returns n.
func NewInt(n int) Int {
	return word(n < 0, size(int64(n)))
}

// size returns the absolute value, that of the least int64 too.
func size(n int64) uint64 {
	if n < 0 {
		return -uint64(n)
	}
	return uint64(n)
}

// signed returns m or -m, in the one form that a number has.
func signed(neg bool, m nat) Int {
	if len(m) > 1 {
		return Int{neg: neg, limbs: m}
	}
	return word(neg, limb(m, 0))
}

func word(neg bool, m uint64) Int {
	if m > math.MaxInt64 {
		return Int{neg: neg, limbs: nat{m}}
	}
	if neg {
		return Int{small: -int64(m)}
	}
	return Int{small: int64(m)}
}

func (x Int) abs() nat {
	if x.isSmall() {
		return natOf(size(x.small))
	}
	return x.limbs
}

func (x Int) isSmall() bool {
	return len(x.limbs) == 0
}

// Small returns x, and true, if its absolute value is at most math.MaxInt64.
func (x Int) Small() (int64, bool) {
	return x.small, x.isSmall()
}

// Sign returns -1, 0 or 1.
func (x Int) Sign() int {
	if x.isSmall() {
		return cmp.Compare(x.small, 0)
	}
	return order(x.neg)
}

// Bits returns how many binary digits the absolute value has; 0 has none.
func (x Int) Bits() int {
	if x.isSmall() {
		return bits.Len64(size(x.small))
	}
	top := len(x.limbs) - 1
	return 64*top + bits.Len64(x.limbs[top])
}

// Neg returns -x.
func (x Int) Neg() Int {
	if x.isSmall() {
		return Int{small: -x.small}
	}
	return Int{neg: !x.neg, limbs: x.limbs}
}

// Abs returns the absolute value.
func (x Int) Abs() Int {
	if x.Sign() < 0 {
		return x.Neg()
	}
	return x
}

// Cmp returns -1, 0 or 1 as x is less than, equal to or greater than y.
func (x Int) Cmp(y Int) int {
	if x.isSmall() && y.isSmall() {
		return cmp.Compare(x.small, y.small)
	}
	if x.Sign() != y.Sign() {
		return cmp.Compare(x.Sign(), y.Sign())
	}
	return x.Sign() * x.abs().cmp(y.abs())
}

// Add returns x + y.
func (x Int) Add(y Int) Int {
	if x.isSmall() && y.isSmall() {
		s := x.small + y.small
		if (s > x.small) == (y.small > 0) && s != math.MinInt64 { // no wraparound
			return Int{small: s}
		}
	}
	a, b := x.abs(), y.abs()
	neg := x.Sign() < 0
	if neg == (y.Sign() < 0) {
		return signed(neg, a.add(b))
	}
	if a.cmp(b) < 0 {
		return signed(!neg, b.sub(a))
	}
	return signed(neg, a.sub(b))
}

// Sub returns x - y.
func (x Int) Sub(y Int) Int {
	return x.Add(y.Neg())
}

// Mul returns x * y.
func (x Int) Mul(y Int) Int {
	neg := x.Sign()*y.Sign() < 0
	if x.isSmall() && y.isSmall() {
		hi, lo := bits.Mul64(size(x.small), size(y.small))
		if hi == 0 {
			return word(neg, lo)
		}
	}
	return signed(neg, x.abs().mul(y.abs()))
}

// Quo returns x divided by y, which is not 0, rounded toward 0.
func (x Int) Quo(y Int) Int {
	if x.isSmall() && y.isSmall() {
		return Int{small: x.small / y.small}
	}
	q, _ := x.abs().div(y.abs())
	return signed(x.Sign()*y.Sign() < 0, q)
}

// Floor returns x divided by y, which is above 0, rounded down.
func (x Int) Floor(y Int) Int {
	q := x.Quo(y)
	if q.Mul(y).Cmp(x) > 0 {
		return q.Sub(NewInt(1))
	}
	return q
}

// Gcd returns the greatest common divisor of x and y, at least 0.
func (x Int) Gcd(y Int) Int {
	if x.isSmall() && y.isSmall() {
		return word(false, Gcd(size(x.small), size(y.small)))
	}
	return signed(false, x.abs().gcd(y.abs()))
}

// Power returns the n-th power of x, for n from 0 up; the power with n = 0 is 1.
func (x Int) Power(n int) Int {
	p := NewInt(1)
	for range n {
		p = p.Mul(x)
	}
	return p
}
