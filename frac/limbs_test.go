package frac

import (
	"math/big"
	"math/rand"
	"testing"
)

func bigOf(limbs []uint32) *big.Int {
	n := new(big.Int)
	for i := len(limbs) - 1; i >= 0; i-- {
		n.Lsh(n, 32).Or(n, big.NewInt(int64(limbs[i])))
	}
	return n
}

// edgy returns limbs with values at which carries and guesses go wrong most easily.
func edgy(r *rand.Rand, limbs []uint32) {
	edges := []uint32{0, 0, 1, 2, 1<<31 - 1, 1 << 31, 1<<31 + 1, 1<<32 - 2, 1<<32 - 1, 1<<32 - 1}
	for i := range limbs {
		limbs[i] = edges[r.Intn(len(edges))]
		if r.Intn(4) == 0 {
			limbs[i] = r.Uint32()
		}
	}
}

func checkDivide(t *testing.T, a wide, b number) {
	t.Helper()
	q, rest := divide(a, b)
	wantQ, wantRest := new(big.Int).QuoRem(bigOf(a[:]), bigOf(b[:]), new(big.Int))
	if bigOf(q[:]).Cmp(wantQ) != 0 || bigOf(rest[:]).Cmp(wantRest) != 0 {
		t.Errorf("%x by %x: %x, %x", a, b, q, rest)
	}
}

func TestDivide(t *testing.T) {
	r := rand.New(rand.NewSource(1))
	for range 200000 {
		var a wide
		var b number
		// A sum of two products has at most 513 bits.
		edgy(r, a[:r.Intn(17)])
		a[16] = uint32(r.Intn(2))
		edgy(r, b[:1+r.Intn(8)])
		if b != (number{}) {
			checkDivide(t, a, b)
		}
	}
}

func TestDivideWhereTheGuessIsTooGreat(t *testing.T) {
	checkDivide(t, wide{0, 0, 1 << 31, 1<<31 - 1}, number{1, 0, 1 << 31})
	checkDivide(t, wide{3, 0, 1 << 31}, number{1, 0, 1 << 29})
	checkDivide(t, wide{0, 1<<32 - 2, 1 << 31}, number{1<<32 - 1, 1 << 31})
	checkDivide(t, wide{0, 0, 1<<32 - 1, 1<<32 - 1}, number{1<<32 - 1, 1<<32 - 1, 1<<32 - 1})
}

func TestGCD(t *testing.T) {
	r := rand.New(rand.NewSource(2))
	for range 20000 {
		var a, b, c number
		n := 1 + r.Intn(7)
		edgy(r, a[:n])
		edgy(r, b[:n])
		edgy(r, c[:8-n])
		x, _ := narrow(times(a, c))
		y, _ := narrow(times(b, c))
		got := gcd(x, y)
		if want := new(big.Int).GCD(nil, nil, bigOf(x[:]), bigOf(y[:])); bigOf(got[:]).Cmp(want) != 0 {
			t.Errorf("%x, %x: %x", x, y, got)
		}
	}
}
