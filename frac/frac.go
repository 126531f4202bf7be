// Package frac computes with exact fractions. It is layer 1: see shared/doc/01-frac.md.
package frac

import "twistlock/api"

// Errors.
const (
	ErrText  api.Errno = 10 // a text that is none of a fraction
	ErrTerms api.Errno = 11 // a text that is not in lowest terms
)

// Frac is a fraction: limbs of numbers, the lowest one first.
type Frac struct {
	Neg      bool
	Num, Den [8]uint32
}

// Right reports whether a fraction is right.
func Right(f Frac) bool {
	if f.Num == (number{}) {
		return f == Frac{Den: number{1}}
	}
	return f.Den != number{} && gcd(f.Num, f.Den) == number{1}
}

// Of returns the fraction with the value of a whole number.
func Of(n int) Frac {
	return Frac{n < 0, fromSmall(magnitude(n)), number{1}}
}

// Ratio returns the fraction a / b.
func Ratio(a, b int) (Frac, api.Errno) {
	if b == 0 {
		return Frac{}, api.ErrArg
	}
	num, den := magnitude(a), magnitude(b)
	common := gcdSmall(num, den)
	neg := a != 0 && (a < 0) != (b < 0)
	return Frac{neg, fromSmall(num / common), fromSmall(den / common)}, api.OK
}

// magnitude returns n without its sign. The negation wraps around at -2^63, whose bits are those of 2^63.
func magnitude(n int) uint64 {
	if n < 0 {
		return uint64(-n)
	}
	return uint64(n)
}

// Add returns the sum of two fractions.
func Add(f, g Frac) (Frac, api.Errno) {
	if !Right(f) || !Right(g) {
		return Frac{}, api.ErrArg
	}
	return add(f, g)
}

// Sub returns the difference of two fractions.
func Sub(f, g Frac) (Frac, api.Errno) {
	if !Right(f) || !Right(g) {
		return Frac{}, api.ErrArg
	}
	g.Neg = !g.Neg
	return add(f, g)
}

// Mul returns the product of two fractions.
func Mul(f, g Frac) (Frac, api.Errno) {
	if !Right(f) || !Right(g) {
		return Frac{}, api.ErrArg
	}
	return mul(f, g)
}

// Div returns the quotient of two fractions.
func Div(f, g Frac) (Frac, api.Errno) {
	if !Right(f) || !Right(g) || g.Num == (number{}) {
		return Frac{}, api.ErrArg
	}
	g.Num, g.Den = g.Den, g.Num
	return mul(f, g)
}

// Sum returns the sum of fractions.
func Sum(l ...Frac) (Frac, api.Errno) {
	for _, f := range l {
		if !Right(f) {
			return Frac{}, api.ErrArg
		}
	}
	sum := Of(0)
	for _, f := range l {
		next, e := add(sum, f)
		if e != api.OK {
			return Frac{}, e
		}
		sum = next
	}
	return sum, api.OK
}

// add adds right fractions; zero may have either sign. Only divisors of what the denominators have in common can be left to cancel.
func add(f, g Frac) (Frac, api.Errno) {
	common := gcd(f.Den, g.Den)
	over := quotient(f.Den, common)
	neg, num := plusSigned(f.Neg, times(f.Num, quotient(g.Den, common)), g.Neg, times(g.Num, over))
	if common == (number{1}) {
		return pack(neg, num, times(f.Den, g.Den))
	}
	_, rest := divide(num, common)
	left := gcd(rest, common)
	num, _ = divide(num, left)
	return pack(neg, num, times(over, quotient(g.Den, left)))
}

// mul multiplies right fractions. It cancels first, so that the products are already in lowest terms.
func mul(f, g Frac) (Frac, api.Errno) {
	one, other := gcd(f.Num, g.Den), gcd(g.Num, f.Den)
	num := times(quotient(f.Num, one), quotient(g.Num, other))
	den := times(quotient(f.Den, other), quotient(g.Den, one))
	return pack(f.Neg != g.Neg, num, den)
}

// plusSigned adds numbers with signs; zero may come out with either sign.
func plusSigned(negA bool, a wide, negB bool, b wide) (bool, wide) {
	if negA == negB {
		return negA, plus(a, b)
	}
	if compare(a, b) < 0 {
		return negB, minus(b, a)
	}
	return negA, minus(a, b)
}

// pack returns the fraction of two numbers in lowest terms.
func pack(neg bool, num, den wide) (Frac, api.Errno) {
	n, shortNum := narrow(num)
	d, shortDen := narrow(den)
	if !shortNum || !shortDen {
		return Frac{}, api.ErrLong
	}
	return Frac{neg && n != number{}, n, d}, api.OK
}

// Cmp compares two fractions.
func Cmp(f, g Frac) (int, api.Errno) {
	if !Right(f) || !Right(g) {
		return 0, api.ErrArg
	}
	if f == g {
		return 0, api.OK
	}
	// The difference is not 0, as right fractions with the same value are equal.
	neg, _ := plusSigned(f.Neg, times(f.Num, g.Den), !g.Neg, times(g.Num, f.Den))
	if neg {
		return -1, api.OK
	}
	return 1, api.OK
}

// Floor returns the greatest whole number that is not greater than a fraction.
func Floor(f Frac) (int, api.Errno) {
	if !Right(f) {
		return 0, api.ErrArg
	}
	whole, rest := divide(widen(f.Num), f.Den)
	if f.Neg && rest != (number{}) {
		whole = plus(whole, wide{1})
	}
	n := toSmall(whole[:])
	const limit = 1 << 63
	if length(whole[:]) > 2 || n > limit || n == limit && !f.Neg {
		return 0, api.ErrLong
	}
	if f.Neg {
		return -int(n), api.OK
	}
	return int(n), api.OK
}
