package exact

import (
	"math"
	"math/bits"
)

// nat is a whole number from 0 up: limbs to the base 2^64, the least first, the last one not 0.
// Its limbs are never changed once it has been returned, so that several numbers may share them.
type nat []uint64

func natOf(x uint64) nat {
	if x == 0 {
		return nil
	}
	return nat{x}
}

// trim leaves out noughts at the top.
func trim(x nat) nat {
	for len(x) > 0 && x[len(x)-1] == 0 {
		x = x[:len(x)-1]
	}
	return x
}

func (x nat) cmp(y nat) int {
	if len(x) != len(y) {
		return order(len(x) < len(y))
	}
	for i := len(x) - 1; i >= 0; i-- {
		if x[i] != y[i] {
			return order(x[i] < y[i])
		}
	}
	return 0
}

func order(less bool) int {
	if less {
		return -1
	}
	return 1
}

func (x nat) add(y nat) nat {
	if len(x) < len(y) {
		x, y = y, x
	}
	z := make(nat, len(x)+1)
	copy(z, x)
	addInto(z, y)
	return trim(z)
}

// addInto adds y to z, which has at least as many limbs, and returns the carry.
func addInto(z, y nat) uint64 {
	var carry uint64
	for i := range z {
		if i >= len(y) && carry == 0 {
			break
		}
		z[i], carry = bits.Add64(z[i], limb(y, i), carry)
	}
	return carry
}

func limb(x nat, i int) uint64 {
	if i < len(x) {
		return x[i]
	}
	return 0
}

// sub returns x - y, for y at most x.
func (x nat) sub(y nat) nat {
	z := make(nat, len(x))
	var borrow uint64
	for i := range x {
		z[i], borrow = bits.Sub64(x[i], limb(y, i), borrow)
	}
	return trim(z)
}

func (x nat) mul(y nat) nat {
	z := make(nat, len(x)+len(y))
	for i, m := range x {
		var carry uint64
		for j, n := range y {
			hi, lo := bits.Mul64(m, n)
			var c uint64
			lo, c = bits.Add64(lo, carry, 0)
			hi += c
			z[i+j], c = bits.Add64(z[i+j], lo, 0)
			carry = hi + c
		}
		z[i+len(y)] = carry
	}
	return trim(z)
}

// div returns the quotient and the rest of x by y, which is not 0.
func (x nat) div(y nat) (nat, nat) {
	if x.cmp(y) < 0 {
		return nil, x
	}
	if len(y) == 1 {
		q, r := x.divWord(y[0])
		return q, natOf(r)
	}
	// With the top bit of the divisor set, the guesses of divStep are at most 2 too large.
	shift := uint(bits.LeadingZeros64(y[len(y)-1]))
	v := trim(y.left(shift))
	u := x.left(shift)
	q := make(nat, len(u)-len(v))
	for i := len(q) - 1; i >= 0; i-- {
		q[i] = divStep(u[i:i+len(v)+1], v)
	}
	return trim(q), trim(u).right(shift)
}

// divStep takes v away from u as often as it can, and returns how often.
// u has one limb more than v, and its upper limbs are less than v.
func divStep(u, v nat) uint64 {
	n := len(v)
	guess := uint64(math.MaxUint64)
	if u[n] < v[n-1] {
		guess, _ = bits.Div64(u[n], u[n-1], v[n-1])
	}
	below := subProduct(u, v, guess)
	for below {
		guess--
		below = addInto(u, v) == 0
	}
	return guess
}

// subProduct takes k * v away from u, to the modulus of u, and reports whether it was more than u.
func subProduct(u, v nat, k uint64) bool {
	var carry uint64
	for i := range v {
		hi, lo := bits.Mul64(k, v[i])
		var c uint64
		lo, c = bits.Add64(lo, carry, 0)
		hi += c
		u[i], c = bits.Sub64(u[i], lo, 0)
		carry = hi + c
	}
	n := len(v)
	var borrow uint64
	u[n], borrow = bits.Sub64(u[n], carry, 0)
	return borrow != 0
}

func (x nat) divWord(y uint64) (nat, uint64) {
	q := make(nat, len(x))
	var r uint64
	for i := len(x) - 1; i >= 0; i-- {
		q[i], r = bits.Div64(r, x[i], y)
	}
	return trim(q), r
}

// left returns x times 2^s, s below 64, with one limb more than x.
func (x nat) left(s uint) nat {
	z := make(nat, len(x)+1)
	for i, m := range x {
		z[i] |= m << s
		z[i+1] = m >> (64 - s)
	}
	return z
}

// right returns x divided by 2^s, s below 64, rounded down.
func (x nat) right(s uint) nat {
	z := make(nat, len(x))
	for i := range x {
		z[i] = x[i]>>s | limb(x, i+1)<<(64-s)
	}
	return trim(z)
}

func (x nat) gcd(y nat) nat {
	for len(x) > 1 || len(y) > 1 {
		if len(y) == 0 {
			return x
		}
		_, r := x.div(y)
		x, y = y, r
	}
	return natOf(Gcd(limb(x, 0), limb(y, 0)))
}

// Gcd returns the greatest common divisor of x and y; that of 0 and 0 is 0.
func Gcd(x, y uint64) uint64 {
	if x == 0 || y == 0 {
		return x | y
	}
	twos := bits.TrailingZeros64(x | y)
	x >>= uint(bits.TrailingZeros64(x))
	for y != 0 {
		y >>= uint(bits.TrailingZeros64(y))
		if x > y {
			x, y = y, x
		}
		y -= x
	}
	return x << uint(twos)
}
