package frac

import "math/bits"

// number is a whole number of up to 256 bits. Its limbs have 32 bits, so that the product of two of them, and two more limbs, fit into 64.
type number = [8]uint32

// wide has room for the sum of two products of numbers, which needs 17 limbs, and for the one more that a division looks at.
type wide [18]uint32

// fromSmall returns a whole number of 64 bits as limbs.
func fromSmall(n uint64) number {
	return number{uint32(n), uint32(n >> 32)}
}

// toSmall returns the lowest 64 bits of limbs.
func toSmall(limbs []uint32) uint64 {
	return uint64(limbs[1])<<32 | uint64(limbs[0])
}

// length returns how many limbs are left without the zeros on top.
func length(limbs []uint32) int {
	n := len(limbs)
	for n > 0 && limbs[n-1] == 0 {
		n--
	}
	return n
}

func widen(n number) wide {
	var w wide
	copy(w[:], n[:])
	return w
}

// narrow reports whether a wide number fits into 256 bits, and returns it if so.
func narrow(w wide) (number, bool) {
	if length(w[:]) > len(number{}) {
		return number{}, false
	}
	var n number
	copy(n[:], w[:])
	return n, true
}

// compare returns -1, 0 or 1, as a is less than b, equal, or greater.
func compare(a, b wide) int {
	for i := len(a) - 1; i >= 0; i-- {
		if a[i] < b[i] {
			return -1
		}
		if a[i] > b[i] {
			return 1
		}
	}
	return 0
}

func plus(a, b wide) wide {
	carry := uint64(0)
	for i := range a {
		t := uint64(a[i]) + uint64(b[i]) + carry
		a[i] = uint32(t)
		carry = t >> 32
	}
	return a
}

// minus returns a - b for a that is not less than b.
func minus(a, b wide) wide {
	borrow := uint64(0)
	for i := range a {
		t := uint64(a[i]) - uint64(b[i]) - borrow
		a[i] = uint32(t)
		borrow = t >> 63
	}
	return a
}

func times(a, b number) wide {
	var product wide
	m, n := length(a[:]), length(b[:])
	for i := range m {
		carry := uint64(0)
		for j := range n {
			t := uint64(a[i])*uint64(b[j]) + uint64(product[i+j]) + carry
			product[i+j] = uint32(t)
			carry = t >> 32
		}
		product[i+n] = uint32(carry)
	}
	return product
}

// timesPlus returns a * factor + more for an a with at least one limb to spare.
func timesPlus(a wide, factor, more uint32) wide {
	carry := uint64(more)
	for i := range a {
		t := uint64(a[i])*uint64(factor) + carry
		a[i] = uint32(t)
		carry = t >> 32
	}
	return a
}

// divide returns the quotient and the rest of a by b, which is not 0.
func divide(a wide, b number) (wide, number) {
	m, n := length(a[:]), length(b[:])
	if n == 1 {
		quotient, rest := divideShort(a, b[0])
		return quotient, number{rest}
	}
	if m <= 2 && n == 2 {
		x, y := toSmall(a[:]), toSmall(b[:])
		return widen(fromSmall(x / y)), fromSmall(x % y)
	}
	return divideLong(a, b, m, n)
}

func divideShort(a wide, b uint32) (wide, uint32) {
	rest := uint64(0)
	for i := length(a[:]) - 1; i >= 0; i-- {
		t := rest<<32 | uint64(a[i])
		a[i] = uint32(t / uint64(b))
		rest = t % uint64(b)
	}
	return a, uint32(rest)
}

// divideLong is Knuth's algorithm D, for a with m limbs and b with n limbs, n at least 2.
func divideLong(a wide, b number, m, n int) (wide, number) {
	// A divisor whose highest bit is set keeps each guess at most two too great.
	shift := bits.LeadingZeros32(b[n-1])
	shiftLeft(a[:], shift)
	shiftLeft(b[:], shift)
	var quotient wide
	for j := m - n; j >= 0; j-- {
		part := a[j : j+n+1]
		quotient[j] = subtractTimes(part, b[:n], guess(part, b[:n]))
	}
	shiftRight(a[:], shift)
	rest, _ := narrow(a)
	return quotient, rest
}

// guess returns the limb of the quotient of part by divisor, which has a limb less, or one more than it.
func guess(part, divisor []uint32) uint64 {
	n := len(divisor)
	first, second := uint64(divisor[n-1]), uint64(divisor[n-2])
	top := uint64(part[n])<<32 | uint64(part[n-1])
	limb, rest := top/first, top%first
	for limb >= 1<<32 || limb*second > rest<<32|uint64(part[n-2]) {
		limb--
		rest += first
		if rest >= 1<<32 {
			break
		}
	}
	return limb
}

// subtractTimes takes limb times divisor from part, or one time less if that is more than part, and returns how many times it took.
func subtractTimes(part, divisor []uint32, limb uint64) uint32 {
	n := len(divisor)
	carry, borrow := uint64(0), uint64(0)
	for i, d := range divisor {
		product := limb*uint64(d) + carry
		carry = product >> 32
		t := uint64(part[i]) - product&(1<<32-1) - borrow
		part[i] = uint32(t)
		borrow = t >> 63
	}
	t := uint64(part[n]) - carry - borrow
	part[n] = uint32(t)
	if t>>63 == 0 {
		return uint32(limb)
	}
	carry = 0
	for i, d := range divisor {
		t := uint64(part[i]) + uint64(d) + carry
		part[i] = uint32(t)
		carry = t >> 32
	}
	part[n] += uint32(carry)
	return uint32(limb - 1)
}

// shiftLeft and shiftRight shift limbs in place by less than 32 bits.
func shiftLeft(limbs []uint32, shift int) {
	low := uint32(0)
	for i, x := range limbs {
		limbs[i] = x<<shift | low
		low = uint32(uint64(x) << shift >> 32)
	}
}

func shiftRight(limbs []uint32, shift int) {
	high := uint32(0)
	for i := len(limbs) - 1; i >= 0; i-- {
		x := limbs[i]
		limbs[i] = x>>shift | high
		high = uint32(uint64(x) << 32 >> shift)
	}
}

// quotient returns a / b for a b that divides a.
func quotient(a, b number) number {
	if b == (number{1}) {
		return a
	}
	q, _ := divide(widen(a), b)
	n, _ := narrow(q)
	return n
}

// gcd returns the greatest common divisor of two numbers, the other one if one of them is 0.
func gcd(a, b number) number {
	for b != (number{}) {
		if length(a[:]) <= 2 && length(b[:]) <= 2 {
			return fromSmall(gcdSmall(toSmall(a[:]), toSmall(b[:])))
		}
		_, rest := divide(widen(a), b)
		a, b = b, rest
	}
	return a
}

func gcdSmall(a, b uint64) uint64 {
	for b != 0 {
		a, b = b, a%b
	}
	return a
}
