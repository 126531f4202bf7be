package frac_test

import (
	"math"
	"math/big"
	"math/rand"
	"regexp"
	"slices"
	"strings"
	"testing"

	"twistlock/api"
	"twistlock/frac"
)

// Numbers of 256 bits and of one bit more.
const (
	longest = "115792089237316195423570985008687907853269984665640564039457584007913129639935"
	tooLong = "115792089237316195423570985008687907853269984665640564039457584007913129639936"
)

func read(t *testing.T, s string) frac.Frac {
	t.Helper()
	f, e := frac.Read(s)
	if e != api.OK {
		t.Fatalf("Read(%q): %d", s, e)
	}
	return f
}

func bigOf(limbs [8]uint32) *big.Int {
	n := new(big.Int)
	for i := len(limbs) - 1; i >= 0; i-- {
		n.Lsh(n, 32).Or(n, big.NewInt(int64(limbs[i])))
	}
	return n
}

func limbsOf(n *big.Int) [8]uint32 {
	var limbs [8]uint32
	rest := new(big.Int).Abs(n)
	for i := range limbs {
		limbs[i] = uint32(new(big.Int).And(rest, big.NewInt(1<<32-1)).Uint64())
		rest.Rsh(rest, 32)
	}
	return limbs
}

// ratOf returns the value of a right fraction.
func ratOf(f frac.Frac) *big.Rat {
	r := new(big.Rat).SetFrac(bigOf(f.Num), bigOf(f.Den))
	if f.Neg {
		r.Neg(r)
	}
	return r
}

// fracOf returns what a function must return whose result has a value.
func fracOf(r *big.Rat) (frac.Frac, api.Errno) {
	if r.Num().BitLen() > 256 || r.Denom().BitLen() > 256 {
		return frac.Frac{}, api.ErrLong
	}
	return frac.Frac{Neg: r.Sign() < 0, Num: limbsOf(r.Num()), Den: limbsOf(r.Denom())}, api.OK
}

// factors returns a number of at most some bits that shares factors with others.
func factors(r *rand.Rand, bits int) *big.Int {
	n := big.NewInt(1)
	for {
		p := big.NewInt([]int64{2, 3, 5, 7, 65537, 1<<31 - 1, 1 << 32, 4294967291, 18446744073709551557 >> 1}[r.Intn(9)])
		next := new(big.Int).Mul(n, p)
		if next.BitLen() > bits {
			return n
		}
		n = next
	}
}

// sample returns a right fraction: small, or with common factors, or at the limit of 256 bits.
func sample(r *rand.Rand) frac.Frac {
	num, den := big.NewInt(r.Int63n(40)), big.NewInt(1+r.Int63n(40))
	switch r.Intn(4) {
	case 0:
		num, den = factors(r, r.Intn(257)), factors(r, r.Intn(257))
	case 1:
		num = new(big.Int).Rand(r, new(big.Int).Lsh(big.NewInt(1), uint(r.Intn(257))))
		den = factors(r, r.Intn(257))
	case 2:
		num = new(big.Int).Sub(new(big.Int).Lsh(big.NewInt(1), 256), big.NewInt(1+r.Int63n(5)))
	}
	q := new(big.Rat).SetFrac(num, den)
	if r.Intn(2) == 0 {
		q.Neg(q)
	}
	if r.Intn(4) == 0 && q.Sign() != 0 {
		q.Inv(q)
	}
	f, _ := fracOf(q)
	return f
}

// wrong returns fractions that are not right.
func wrong() []frac.Frac {
	one, two := [8]uint32{1}, [8]uint32{2}
	return []frac.Frac{
		{},
		{Neg: true},
		{Num: one},
		{Neg: true, Num: one},
		{Num: [8]uint32{7: 1 << 31}},
		{Neg: true, Den: one},
		{Den: two},
		{Den: [8]uint32{7: 1}},
		{Num: two, Den: two},
		{Num: [8]uint32{6}, Den: [8]uint32{4}},
		{Neg: true, Num: [8]uint32{3: 5}, Den: [8]uint32{3: 5}},
		{Num: [8]uint32{0, 1}, Den: two},
		{Num: [8]uint32{7: 3}, Den: [8]uint32{7: 9}},
	}
}

// P1.1

func TestRight(t *testing.T) {
	for i, f := range wrong() {
		if frac.Right(f) {
			t.Error(i, f)
		}
	}
	for i, f := range []frac.Frac{
		{Den: [8]uint32{1}},
		{Num: [8]uint32{1}, Den: [8]uint32{1}},
		{Neg: true, Num: [8]uint32{3}, Den: [8]uint32{2}},
		{Num: [8]uint32{1}, Den: [8]uint32{7: 1 << 31}},
		{Neg: true, Num: [8]uint32{7: 1 << 31}, Den: [8]uint32{1}},
		{Num: [8]uint32{0, 1}, Den: [8]uint32{3}},
	} {
		if !frac.Right(f) {
			t.Error(i, f)
		}
	}
}

func TestRightOfAnyLimbs(t *testing.T) {
	r := rand.New(rand.NewSource(3))
	for range 20000 {
		common := factors(r, r.Intn(20))
		num, den := factors(r, r.Intn(236)), factors(r, r.Intn(236))
		f := frac.Frac{Neg: r.Intn(2) == 0, Num: limbsOf(num.Mul(num, common)), Den: limbsOf(den.Mul(den, common))}
		want := new(big.Int).GCD(nil, nil, num, den).IsInt64() && new(big.Int).GCD(nil, nil, num, den).Int64() == 1
		if frac.Right(f) != want {
			t.Error(f, want)
		}
	}
}

func TestOf(t *testing.T) {
	if frac.Of(0) != (frac.Frac{Den: [8]uint32{1}}) {
		t.Error(frac.Of(0))
	}
	for _, n := range []int{0, 1, -1, 5, -5, 1 << 32, -1 << 32, 1<<40 + 3, math.MaxInt, math.MinInt, math.MinInt + 1} {
		want, _ := fracOf(new(big.Rat).SetInt64(int64(n)))
		if f := frac.Of(n); f != want || !frac.Right(f) {
			t.Error(n, f)
		}
	}
}

func TestRatio(t *testing.T) {
	ends := []int{0, 1, -1, 2, -2, 3, 4, 6, -6, 12, 1 << 32, -3 << 32, math.MaxInt, math.MaxInt - 1, math.MinInt, math.MinInt + 1, math.MinInt / 2}
	for _, a := range ends {
		for _, b := range ends {
			want, wantE := frac.Frac{}, api.ErrArg
			if b != 0 {
				want, wantE = fracOf(new(big.Rat).SetFrac(big.NewInt(int64(a)), big.NewInt(int64(b))))
			}
			if f, e := frac.Ratio(a, b); f != want || e != wantE {
				t.Error(a, b, f, e)
			}
		}
	}
	if f, _ := frac.Ratio(6, -4); f != (frac.Frac{Neg: true, Num: [8]uint32{3}, Den: [8]uint32{2}}) {
		t.Error(f)
	}
}

// P1.2

// operation is one of the four, and the same on values.
type operation struct {
	name  string
	do    func(f, g frac.Frac) (frac.Frac, api.Errno)
	value func(z, x, y *big.Rat) *big.Rat
}

func operations() []operation {
	return []operation{
		{"Add", frac.Add, (*big.Rat).Add},
		{"Sub", frac.Sub, (*big.Rat).Sub},
		{"Mul", frac.Mul, (*big.Rat).Mul},
		{"Div", frac.Div, (*big.Rat).Quo},
	}
}

func TestFourExamples(t *testing.T) {
	f, g := read(t, "1/6"), read(t, "1/10")
	for i, want := range []string{"4/15", "1/15", "1/60", "5/3"} {
		if h, e := operations()[i].do(f, g); e != api.OK || h != read(t, want) {
			t.Error(i, h, e)
		}
	}
}

func TestFour(t *testing.T) {
	r := rand.New(rand.NewSource(4))
	long := 0
	for range 30000 {
		f, g := sample(r), sample(r)
		for _, o := range operations() {
			want, wantE := frac.Frac{}, api.ErrArg
			if o.name != "Div" || g != frac.Of(0) {
				want, wantE = fracOf(o.value(new(big.Rat), ratOf(f), ratOf(g)))
			}
			h, e := o.do(f, g)
			if h != want || e != wantE {
				t.Fatal(o.name, f, g, h, e)
			}
			if e == api.ErrLong {
				long++
			}
		}
	}
	if long < 1000 {
		t.Error("too few results were too long:", long)
	}
}

func TestFourAtTheLimit(t *testing.T) {
	most, one := read(t, longest), frac.Of(1)
	least := read(t, "1/"+longest)
	third, _ := frac.Div(most, frac.Of(3))
	for i, c := range []struct {
		do   func(f, g frac.Frac) (frac.Frac, api.Errno)
		f, g frac.Frac
		e    api.Errno
	}{
		{frac.Add, most, one, api.ErrLong},
		{frac.Sub, most, frac.Of(-1), api.ErrLong},
		{frac.Sub, most, one, api.OK},
		{frac.Sub, most, most, api.OK},
		{frac.Add, most, most, api.ErrLong},
		{frac.Add, third, third, api.OK},
		{frac.Add, most, least, api.ErrLong},
		{frac.Add, least, least, api.OK},
		{frac.Mul, most, least, api.OK},
		{frac.Mul, most, most, api.ErrLong},
		{frac.Mul, least, frac.Of(3), api.OK},
		{frac.Div, least, frac.Of(2), api.ErrLong},
		{frac.Div, most, most, api.OK},
		{frac.Div, most, least, api.ErrLong},
	} {
		h, e := c.do(c.f, c.g)
		if e != c.e || (e == api.OK) != frac.Right(h) || e != api.OK && h != (frac.Frac{}) {
			t.Error(i, h, e)
		}
	}
	f := frac.Frac{Num: [8]uint32{6: 1 << 8}, Den: [8]uint32{1}} // 2^200
	if h, e := frac.Mul(f, f); e != api.ErrLong || h != (frac.Frac{}) {
		t.Error(h, e)
	}
	if h, e := frac.Div(f, f); e != api.OK || h != one {
		t.Error(h, e)
	}
	inverse, _ := frac.Div(one, f)
	if h, e := frac.Mul(f, inverse); e != api.OK || h != one {
		t.Error(h, e)
	}
}

func TestFourOfWhatIsNotRight(t *testing.T) {
	for i, w := range wrong() {
		for _, o := range operations() {
			for _, right := range []frac.Frac{frac.Of(0), frac.Of(1), read(t, "-"+longest), read(t, "1/"+longest)} {
				if h, e := o.do(w, right); h != (frac.Frac{}) || e != api.ErrArg {
					t.Error(i, o.name, h, e)
				}
				if h, e := o.do(right, w); h != (frac.Frac{}) || e != api.ErrArg {
					t.Error(i, o.name, h, e)
				}
			}
		}
	}
	for _, s := range []string{"0", "1", "-3/2", longest} {
		if h, e := frac.Div(read(t, s), frac.Of(0)); h != (frac.Frac{}) || e != api.ErrArg {
			t.Error(s, h, e)
		}
	}
}

func TestSum(t *testing.T) {
	most := read(t, longest)
	for i, c := range []struct {
		l    []frac.Frac
		want frac.Frac
		e    api.Errno
	}{
		{nil, frac.Of(0), api.OK},
		{[]frac.Frac{read(t, "-3/2")}, read(t, "-3/2"), api.OK},
		{[]frac.Frac{read(t, "1/2"), read(t, "1/3"), read(t, "1/6"), read(t, "-3/4")}, read(t, "1/4"), api.OK},
		{[]frac.Frac{most, frac.Of(-1), frac.Of(1)}, most, api.OK},
		{[]frac.Frac{most, frac.Of(1), frac.Of(-1)}, frac.Frac{}, api.ErrLong},
		{[]frac.Frac{frac.Of(-1), most, frac.Of(1)}, most, api.OK},
		{[]frac.Frac{most, frac.Of(1), {}}, frac.Frac{}, api.ErrArg},
		{[]frac.Frac{{}}, frac.Frac{}, api.ErrArg},
		{[]frac.Frac{{Num: [8]uint32{2}, Den: [8]uint32{4}}, frac.Of(1)}, frac.Frac{}, api.ErrArg},
	} {
		before := slices.Clone(c.l)
		if f, e := frac.Sum(c.l...); f != c.want || e != c.e {
			t.Error(i, f, e)
		}
		if !slices.Equal(before, c.l) {
			t.Error(i, "an argument was changed")
		}
	}
}

func TestSumIsOneAdditionAfterTheOther(t *testing.T) {
	r := rand.New(rand.NewSource(5))
	for range 3000 {
		l := make([]frac.Frac, r.Intn(6))
		want, wantE := frac.Of(0), api.OK
		for i := range l {
			l[i] = sample(r)
			if wantE == api.OK {
				want, wantE = frac.Add(want, l[i])
			}
		}
		if f, e := frac.Sum(l...); f != want || e != wantE {
			t.Fatal(l, f, e)
		}
	}
}

// P1.3

func TestCmp(t *testing.T) {
	r := rand.New(rand.NewSource(6))
	for range 20000 {
		f, g := sample(r), sample(r)
		if r.Intn(10) == 0 {
			g = f
		}
		if r.Intn(10) == 0 && f != frac.Of(0) {
			g = f
			g.Neg = !f.Neg
		}
		if n, e := frac.Cmp(f, g); n != ratOf(f).Cmp(ratOf(g)) || e != api.OK {
			t.Fatal(f, g, n, e)
		}
	}
	for i, w := range wrong() {
		if n, e := frac.Cmp(w, frac.Of(1)); n != 0 || e != api.ErrArg {
			t.Error(i, n, e)
		}
		if n, e := frac.Cmp(frac.Of(-1), w); n != 0 || e != api.ErrArg {
			t.Error(i, n, e)
		}
		if n, e := frac.Cmp(w, w); n != 0 || e != api.ErrArg {
			t.Error(i, n, e)
		}
	}
}

func TestFloor(t *testing.T) {
	for _, c := range []struct {
		s    string
		want int
		e    api.Errno
	}{
		{"3/2", 1, api.OK},
		{"-3/2", -2, api.OK},
		{"0", 0, api.OK},
		{"4", 4, api.OK},
		{"-4", -4, api.OK},
		{"1/" + longest, 0, api.OK},
		{"-1/" + longest, -1, api.OK},
		{"9223372036854775807", math.MaxInt, api.OK},
		{"18446744073709551615/2", math.MaxInt, api.OK},
		{"9223372036854775808", 0, api.ErrLong},
		{"-9223372036854775808", math.MinInt, api.OK},
		{"-18446744073709551615/2", math.MinInt, api.OK},
		{"-18446744073709551617/2", 0, api.ErrLong},
		{"-9223372036854775809", 0, api.ErrLong},
		{"18446744073709551615", 0, api.ErrLong},
		{"-18446744073709551615", 0, api.ErrLong},
		{"-36893488147419103231/2", 0, api.ErrLong},
		{"18446744073709551616", 0, api.ErrLong},
		{"-18446744073709551617", 0, api.ErrLong},
		{"36893488147419103233/4", 0, api.ErrLong},
		{longest, 0, api.ErrLong},
		{"-" + longest + "/2", 0, api.ErrLong},
	} {
		if n, e := frac.Floor(read(t, c.s)); n != c.want || e != c.e {
			t.Error(c.s, n, e)
		}
	}
	for i, w := range wrong() {
		if n, e := frac.Floor(w); n != 0 || e != api.ErrArg {
			t.Error(i, n, e)
		}
	}
}

func TestFloorOfAnyFraction(t *testing.T) {
	r := rand.New(rand.NewSource(7))
	for range 20000 {
		f := sample(r)
		// Of Euclid's division the quotient is the floor, as denominators are greater than 0.
		q := new(big.Int).Div(ratOf(f).Num(), ratOf(f).Denom())
		want, wantE := 0, api.ErrLong
		if q.IsInt64() {
			want, wantE = int(q.Int64()), api.OK
		}
		if n, e := frac.Floor(f); n != want || e != wantE {
			t.Fatal(f, n, e)
		}
	}
}

// P1.4

func TestText(t *testing.T) {
	for i, c := range []struct {
		f    frac.Frac
		want string
	}{
		{frac.Of(0), "0"},
		{frac.Of(-7), "-7"},
		{frac.Frac{Neg: true, Num: [8]uint32{3}, Den: [8]uint32{2}}, "-3/2"},
		{frac.Of(1000000000), "1000000000"},
		{frac.Of(1000000000000000001), "1000000000000000001"},
		{frac.Frac{Num: [8]uint32{1}, Den: [8]uint32{0, 1}}, "1/4294967296"},
	} {
		if s, e := frac.Text(c.f); s != c.want || e != api.OK {
			t.Error(i, s, e)
		}
	}
	for i, w := range wrong() {
		if s, e := frac.Text(w); s != "" || e != api.ErrArg {
			t.Error(i, s, e)
		}
	}
}

func TestTextIsReadBack(t *testing.T) {
	r := rand.New(rand.NewSource(8))
	for range 10000 {
		f := sample(r)
		s, e := frac.Text(f)
		want := strings.TrimSuffix(ratOf(f).String(), "/1")
		if s != want || e != api.OK {
			t.Fatal(f, s, e)
		}
		if g, e := frac.Read(s); g != f || e != api.OK {
			t.Fatal(s, g, e)
		}
	}
}

func TestRead(t *testing.T) {
	zeros := strings.Repeat("0", 78)
	round := new(big.Int).Lsh(big.NewInt(1), 576).String() // zero, if only its lowest limbs were kept
	for _, c := range []struct {
		s string
		e api.Errno
	}{
		{"0", api.OK}, {"-3/2", api.OK}, {"10", api.OK}, {"1/10", api.OK},
		{longest, api.OK}, {"-1/" + longest, api.OK}, {"1" + zeros[1:], api.OK},

		{"", frac.ErrText}, {"-", frac.ErrText}, {"/", frac.ErrText}, {"-/", frac.ErrText}, {"/2", frac.ErrText}, {"-/2", frac.ErrText},
		{"3/-2", frac.ErrText}, {"03", frac.ErrText}, {"-03", frac.ErrText}, {"00", frac.ErrText}, {"1/0", frac.ErrText}, {"0/0", frac.ErrText},
		{"1/", frac.ErrText}, {"1/02", frac.ErrText}, {"1/00", frac.ErrText}, {"1/2/3", frac.ErrText}, {"1//2", frac.ErrText}, {"1/2/", frac.ErrText},
		{"--1", frac.ErrText}, {"+1", frac.ErrText}, {" 1", frac.ErrText}, {"1 ", frac.ErrText}, {"1/ 2", frac.ErrText}, {"1.5", frac.ErrText},
		{"1\x00", frac.ErrText}, {"\xff", frac.ErrText}, {"٣", frac.ErrText}, {"0x1", frac.ErrText}, {"1_0", frac.ErrText}, {"1e3", frac.ErrText}, {":", frac.ErrText},

		{"1" + zeros, api.ErrLong}, {"-1" + zeros, api.ErrLong}, {"1/1" + zeros, api.ErrLong}, {tooLong, api.ErrLong}, {"1/" + tooLong, api.ErrLong},
		{"1" + zeros + "/1" + zeros, api.ErrLong}, {strings.Repeat("9", 78), api.ErrLong}, {strings.Repeat("9", 100000), api.ErrLong}, {round, api.ErrLong}, {"1/" + round, api.ErrLong},

		{"2/4", frac.ErrTerms}, {"4/1", frac.ErrTerms}, {"-4/1", frac.ErrTerms}, {"-0", frac.ErrTerms}, {"0/1", frac.ErrTerms}, {"0/3", frac.ErrTerms},
		{"-0/3", frac.ErrTerms}, {longest + "/" + longest, frac.ErrTerms}, {longest + "/3", frac.ErrTerms},

		{"1" + zeros + "/0", frac.ErrText}, {"1" + zeros + "/", frac.ErrText}, {"0/1" + zeros, api.ErrLong}, {tooLong + "/2", api.ErrLong}, {tooLong + "/1", api.ErrLong},
	} {
		f, e := frac.Read(c.s)
		if e != c.e || (e == api.OK) != frac.Right(f) || e != api.OK && f != (frac.Frac{}) {
			t.Error(c.s, f, e)
			continue
		}
		if s, _ := frac.Text(f); e == api.OK && s != c.s {
			t.Error(c.s, s)
		}
	}
}

var grammar = regexp.MustCompile(`\A(-?)(0|[1-9][0-9]*)(?:/([1-9][0-9]*))?\z`)

// wantRead says of a string what Read must return, by a grammar of its own.
func wantRead(s string) (frac.Frac, api.Errno) {
	parts := grammar.FindStringSubmatch(s)
	if parts == nil {
		return frac.Frac{}, frac.ErrText
	}
	if parts[3] == "" {
		parts[3] = "1"
	}
	num, _ := new(big.Int).SetString(parts[2], 10)
	den, _ := new(big.Int).SetString(parts[3], 10)
	if num.BitLen() > 256 || den.BitLen() > 256 {
		return frac.Frac{}, api.ErrLong
	}
	r := new(big.Rat).SetFrac(num, den)
	if parts[1] == "-" {
		r.Neg(r)
	}
	if strings.TrimSuffix(r.String(), "/1") != s {
		return frac.Frac{}, frac.ErrTerms
	}
	return fracOf(r)
}

func TestReadOfAnyString(t *testing.T) {
	r := rand.New(rand.NewSource(9))
	for range 20000 {
		b := make([]byte, r.Intn(7))
		for i := range b {
			b[i] = "0012346-/ "[r.Intn(10)]
		}
		want, wantE := wantRead(string(b))
		if f, e := frac.Read(string(b)); f != want || e != wantE {
			t.Errorf("%q: %v %d", b, f, e)
		}
	}
}

// P1.5

func TestOrderOfParts(t *testing.T) {
	r := rand.New(rand.NewSource(10))
	for range 5000 {
		f, g := sample(r), sample(r)
		for _, do := range []func(f, g frac.Frac) (frac.Frac, api.Errno){frac.Add, frac.Mul} {
			a, e1 := do(f, g)
			b, e2 := do(g, f)
			if a != b || e1 != e2 {
				t.Fatal(f, g, a, e1, b, e2)
			}
		}
	}
}

// short returns a fraction that leaves room for three operations.
func short(r *rand.Rand) frac.Frac {
	f, _ := frac.Ratio(int(r.Int63()>>r.Intn(63))*(1-2*r.Intn(2)), 1+int(r.Int63()>>r.Intn(63)))
	return f
}

func must(t *testing.T, do func(f, g frac.Frac) (frac.Frac, api.Errno), f, g frac.Frac) frac.Frac {
	t.Helper()
	h, e := do(f, g)
	if e != api.OK {
		t.Fatal(f, g, e)
	}
	return h
}

func TestLawsOfSumsAndProducts(t *testing.T) {
	r := rand.New(rand.NewSource(11))
	for range 3000 {
		f, g, h := short(r), short(r), short(r)
		if must(t, frac.Add, must(t, frac.Add, f, g), h) != must(t, frac.Add, f, must(t, frac.Add, g, h)) {
			t.Error("sums of three", f, g, h)
		}
		if must(t, frac.Mul, must(t, frac.Mul, f, g), h) != must(t, frac.Mul, f, must(t, frac.Mul, g, h)) {
			t.Error("products of three", f, g, h)
		}
		if must(t, frac.Mul, f, must(t, frac.Add, g, h)) != must(t, frac.Add, must(t, frac.Mul, f, g), must(t, frac.Mul, f, h)) {
			t.Error("a product of a sum", f, g, h)
		}
		if must(t, frac.Sub, must(t, frac.Add, f, g), g) != f {
			t.Error("subtracted again", f, g)
		}
		if g != frac.Of(0) && must(t, frac.Div, must(t, frac.Mul, f, g), g) != f {
			t.Error("divided again", f, g)
		}
	}
}

func TestOrderAgreesWithSumsAndProducts(t *testing.T) {
	r := rand.New(rand.NewSource(12))
	for range 3000 {
		f, g, h := short(r), short(r), short(r)
		n, _ := frac.Cmp(f, g)
		if sums, e := frac.Cmp(must(t, frac.Add, f, h), must(t, frac.Add, g, h)); sums != n || e != api.OK {
			t.Error("sums", f, g, h)
		}
		h.Neg = false
		if h == frac.Of(0) {
			continue
		}
		if products, e := frac.Cmp(must(t, frac.Mul, f, h), must(t, frac.Mul, g, h)); products != n || e != api.OK {
			t.Error("products", f, g, h)
		}
	}
}

// R1 and R2

func TestAnyContents(t *testing.T) {
	r := rand.New(rand.NewSource(13))
	contents := func() frac.Frac {
		f := frac.Frac{Neg: r.Intn(2) == 0}
		for i := range f.Num[:r.Intn(9)] {
			f.Num[i] = r.Uint32() >> r.Intn(32) << r.Intn(32)
		}
		for i := range f.Den[:r.Intn(9)] {
			f.Den[i] = r.Uint32() >> r.Intn(32) << r.Intn(32)
		}
		return f
	}
	for range 30000 {
		f, g := contents(), contents()
		right := frac.Right(f) && frac.Right(g)
		for _, o := range operations() {
			h, e := o.do(f, g)
			if e == api.OK && !frac.Right(h) || e != api.OK && h != (frac.Frac{}) || !right && e != api.ErrArg {
				t.Fatal(o.name, f, g, h, e)
			}
		}
		if _, e := frac.Cmp(f, g); (e == api.OK) != right {
			t.Fatal(f, g, e)
		}
	}
}
