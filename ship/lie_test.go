package ship_test

import (
	"math"
	"math/rand"
	"slices"
	"testing"

	"twistlock/api"
	"twistlock/ship"
)

// outside returns indices for which a list of a length has no element.
func outside(length int) []int {
	return append([]int{-length - 1, -2, -1, length, length + 1}, extremes...)
}

// strange is a ship that is not right: some columns are at one place, some far away, and the rows of covers are in no order, are there twice, or in two covers.
func strange() api.Ship {
	return api.Ship{
		Columns: []api.Column{
			at(-5, 3, true),
			at(40, math.MaxInt, false),
			at(40, math.MinInt, false),
			at(2, 9, false),
			at(2, 8, true),
			at(2, 9, true),
			at(2, 9, false),
			at(2, 8, false),
			at(2, 8, false),
			at(40, math.MaxInt-1, false),
			at(0, -1, true),
			at(0, 0, true),
		},
		Covers: []api.Cover{
			over(40, math.MaxInt, math.MinInt, math.MaxInt),
			over(2),
			over(2, 9, 7, 9),
			over(2, 8, 9),
			over(-5, 4, 3, 2),
			over(2, 8),
			over(3, 8, 9),
		},
	}
}

func TestExample(t *testing.T) {
	s := example()
	if !ship.Right(s) {
		t.Error("not right")
	}
	for column, want := range []int{0, 0, 0, 0, -1} {
		if got := ship.CoverOf(s, column); got != want {
			t.Error(column, got)
		}
	}
	if under, upon, beside := ship.Under(s, 0), ship.Upon(s, 0), ship.Beside(s, 0); !slices.Equal(under, []int{0, 1}) || !slices.Equal(upon, []int{2, 3}) || !slices.Equal(beside, []int{1}) {
		t.Error(under, upon, beside)
	}
	if n, ok := ship.Apart(s, 0, 4); n != 1 || !ok {
		t.Error(n, ok)
	}
	if ship.Places(s) != 28 || ship.Tallest(s) != 4 {
		t.Error(ship.Places(s), ship.Tallest(s))
	}
}

// P7.2

func TestFind(t *testing.T) {
	for _, s := range []api.Ship{example(), strange(), many(200, 3)} {
		first := map[place]int{}
		for i, c := range slices.Backward(s.Columns) {
			first[place{c.Bay, c.Row, c.Deck}] = i
		}
		for i, c := range s.Columns {
			for _, deck := range []bool{false, true} {
				for _, bay := range []int{c.Bay, c.Bay - 1, c.Bay + 1, c.Row} {
					for _, row := range []int{c.Row, c.Row - 1, c.Row + 1, c.Bay} {
						want, known := first[place{bay, row, deck}]
						if got, ok := ship.Find(s, bay, row, deck); got != want || ok != known {
							t.Error(i, bay, row, deck, got, ok)
						}
					}
				}
			}
		}
	}
}

// place is where a column is.
type place struct {
	bay, row int
	deck     bool
}

func TestFindWithoutColumns(t *testing.T) {
	for _, s := range []api.Ship{{}, {Columns: []api.Column{}}, {Covers: []api.Cover{over(0, 0)}}} {
		if at, ok := ship.Find(s, 0, 0, false); at != 0 || ok {
			t.Error(at, ok)
		}
	}
}

// P7.3

func TestCoverOfInAStrangeShip(t *testing.T) {
	for column, want := range []int{4, 0, 0, 2, 3, 2, 2, 3, 3, -1, -1, -1} {
		if got := ship.CoverOf(strange(), column); got != want {
			t.Error(column, got)
		}
	}
}

func TestUnderAndUponInAStrangeShip(t *testing.T) {
	for cover, want := range [][2][]int{
		{{1, 2}, nil},
		{nil, nil},
		{{3, 6}, {5}},
		{{3, 6, 7, 8}, {4, 5}},
		{nil, {0}},
		{{7, 8}, {4}},
		{nil, nil},
	} {
		if under, upon := ship.Under(strange(), cover), ship.Upon(strange(), cover); !slices.Equal(under, want[0]) || !slices.Equal(upon, want[1]) {
			t.Error(cover, under, upon)
		}
	}
}

func TestWithoutSuchAColumnOrCover(t *testing.T) {
	for i, s := range []api.Ship{{}, example(), strange(), covered(over(0, 0)), {Covers: []api.Cover{over(0, 0)}}, one(at(0, 0, true))} {
		for _, column := range outside(len(s.Columns)) {
			if got := ship.CoverOf(s, column); got != -1 {
				t.Error(i, column, got)
			}
			if got := ship.Beside(s, column); len(got) > 0 {
				t.Error(i, column, got)
			}
			for other := range max(len(s.Columns), 1) {
				n, ok := ship.Apart(s, column, other)
				m, also := ship.Apart(s, other, column)
				if n != 0 || ok || m != 0 || also {
					t.Error(i, column, other, n, ok, m, also)
				}
			}
		}
		for _, cover := range outside(len(s.Covers)) {
			if under, upon := ship.Under(s, cover), ship.Upon(s, cover); len(under) > 0 || len(upon) > 0 {
				t.Error(i, cover, under, upon)
			}
		}
	}
}

// P7.4

func TestBesideInAStrangeShip(t *testing.T) {
	for column, want := range [][]int{nil, {9}, nil, {7, 8}, {5}, {4}, {7, 8}, {3, 6}, {3, 6}, {1}, {11}, {10}} {
		if got := ship.Beside(strange(), column); !slices.Equal(got, want) {
			t.Error(column, got)
		}
	}
}

func TestRowsFarAwayAreNotBeside(t *testing.T) {
	rows := append([]int{-3, -2, -1, 0, 1, 2, 3}, extremes...)
	for _, row := range rows {
		for _, other := range rows {
			s := api.Ship{Columns: []api.Column{at(0, row, true), at(0, other, true)}}
			beside := row < other && row == other-1 || other < row && other == row-1
			if got := ship.Beside(s, 0); (len(got) > 0) != beside {
				t.Error(row, other, got)
			}
		}
	}
}

func TestApartOfAnyBays(t *testing.T) {
	bays := slices.Clone(extremes)
	for bay := -3; bay < 44; bay++ {
		bays = append(bays, bay)
	}
	right := func(bay int) bool { return 0 <= bay && bay <= 39 }
	for _, bay := range bays {
		for _, other := range bays {
			s := api.Ship{Columns: []api.Column{at(bay, -1, true), at(other, 99, false)}}
			want := 0
			for right(bay) && right(other) && want != bay-other && want != other-bay {
				want++
			}
			if got, ok := ship.Apart(s, 0, 1); got != want || ok != (right(bay) && right(other)) {
				t.Error(bay, other, got, ok)
			}
			if got, ok := ship.Apart(s, 0, 0); got != 0 || ok != right(bay) {
				t.Error(bay, got, ok)
			}
		}
	}
}

// P7.5

func TestTallestAndPlaces(t *testing.T) {
	for i, x := range []struct {
		tiers           []int
		tallest, places int
	}{
		{nil, 0, 0},
		{[]int{0}, 0, 0},
		{[]int{5}, 5, 10},
		{[]int{1, 3, 2}, 3, 12},
		{[]int{3, 2, 1}, 3, 12},
		{[]int{1, 2, 3}, 3, 12},
		{[]int{2, 2}, 2, 8},
		{[]int{-4}, -4, -8},
		{[]int{-4, -2, -3}, -2, -18},
		{[]int{-4, 0, -3}, 0, -14},
		{[]int{7, -9}, 7, -4},
		{[]int{11, 1000}, 1000, 2022},
		{[]int{math.MaxInt}, math.MaxInt, -2},
		{[]int{math.MinInt}, math.MinInt, 0},
		{[]int{math.MinInt, math.MaxInt}, math.MaxInt, -2},
		{[]int{math.MinInt, -1}, -1, -2},
		{[]int{1 << 62, 3}, 1 << 62, math.MinInt + 6},
		{[]int{1 << 62, 1 << 62, 1}, 1 << 62, 2},
		{[]int{1 << 40, 1}, 1 << 40, 1<<41 + 2},
	} {
		var s api.Ship
		for n, tiers := range x.tiers {
			s.Columns = append(s.Columns, api.Column{Bay: n - 1, Deck: n%2 == 0, Tiers: tiers})
		}
		if tallest, places := ship.Tallest(s), ship.Places(s); tallest != x.tallest || places != x.places {
			t.Error(i, tallest, places)
		}
	}
	if s := many(200, 0); ship.Tallest(s) != 1 || ship.Places(s) != 400 {
		t.Error(ship.Tallest(s), ship.Places(s))
	}
}

// P7.2 to P7.5

// relations are who is under, upon and beside whom.
type relations struct{ under, upon, coverOf, beside [][]int }

// related returns the relations of a ship, found pair by pair.
func related(s api.Ship) relations {
	n, m := len(s.Columns), len(s.Covers)
	all := relations{make([][]int, m), make([][]int, m), make([][]int, n), make([][]int, n)}
	for i, c := range s.Columns {
		for k, cover := range s.Covers {
			if cover.Bay != c.Bay || !slices.Contains(cover.Rows, c.Row) {
				continue
			}
			all.coverOf[i] = append(all.coverOf[i], k)
			if c.Deck {
				all.upon[k] = append(all.upon[k], i)
			} else {
				all.under[k] = append(all.under[k], i)
			}
		}
		for j, other := range s.Columns {
			if c.Bay == other.Bay && c.Deck == other.Deck && (c.Row == other.Row+1 || c.Row == other.Row-1) {
				all.beside[i] = append(all.beside[i], j)
			}
		}
	}
	return all
}

// compare reports whether the functions give the relations of a ship.
func (all relations) compare(t *testing.T, s api.Ship) {
	for k := range s.Covers {
		if under, upon := ship.Under(s, k), ship.Upon(s, k); !slices.Equal(under, all.under[k]) || !slices.Equal(upon, all.upon[k]) {
			t.Error(s, k, under, upon)
		}
	}
	for i := range s.Columns {
		if beside := ship.Beside(s, i); !slices.Equal(beside, all.beside[i]) {
			t.Error(s, i, beside)
		}
		if got := ship.CoverOf(s, i); got != append(all.coverOf[i], -1)[0] {
			t.Error(s, i, got)
		}
	}
}

func TestAnyShip(t *testing.T) {
	r := rand.New(rand.NewSource(2))
	right := 0
	for range 4000 {
		was := someShip(r)
		s := copied(was)
		related(was).compare(t, s)
		for range 3 {
			ship.Apart(s, r.Intn(7), r.Intn(7))
			ship.Find(s, r.Intn(4), r.Intn(6), r.Intn(2) == 0)
		}
		ship.Tallest(s)
		ship.Places(s)
		if !untouched(s, was) {
			t.Fatal(was, "now", s)
		}
		if ship.Right(s) {
			right++
		}
	}
	if right < 500 || right > 3500 {
		t.Error("too few ships that are right, or that are not", right)
	}
}

func TestResultsShareNoMemory(t *testing.T) {
	s := copied(example())
	results := func() [][]int {
		return [][]int{ship.Under(s, 0), ship.Upon(s, 0), ship.Beside(s, 0), ship.Beside(s, 3)}
	}
	want, first, second := results(), results(), results()
	for i := range first {
		for k := range first[i] {
			first[i][k] = 99
		}
		_ = append(first[i], 98)
	}
	if !slices.EqualFunc(second, want, slices.Equal) || !slices.EqualFunc(results(), want, slices.Equal) || !untouched(s, example()) {
		t.Error(second, results(), s)
	}
	s.Covers[0].Rows[0], s.Columns[0].Bay = 7, 7
	if !slices.EqualFunc(second, want, slices.Equal) {
		t.Error(second)
	}
}

// P7.6

// rightShip returns a ship that is right, with many columns that lie close together.
func rightShip(r *rand.Rand) api.Ship {
	var s api.Ship
	for _, place := range r.Perm(4 * 5 * 2)[:1+r.Intn(30)] {
		c := at(place%4, place/4%5, place/20 > 0)
		c.Tiers = 1 + r.Intn(10)
		s.Columns = append(s.Columns, c)
	}
	for bay := range 5 {
		parts := make([][]int, 3)
		for row := range 6 {
			k := r.Intn(3)
			parts[k] = append(parts[k], row)
		}
		for _, rows := range parts[r.Intn(3):] {
			if len(rows) > 0 {
				s.Covers = append(s.Covers, over(bay, rows...))
			}
		}
	}
	return s
}

// eachRight calls f with ships that are right.
func eachRight(t *testing.T, seed int64, f func(s api.Ship)) {
	r := rand.New(rand.NewSource(seed))
	for range 500 {
		s := rightShip(r)
		if !ship.Right(s) {
			t.Fatal(s)
		}
		f(s)
	}
}

func TestAColumnHasOneCoverAtMost(t *testing.T) {
	covers := 0
	eachRight(t, 3, func(s api.Ship) {
		own := make([][]int, len(s.Columns))
		for k := range s.Covers {
			for _, i := range slices.Concat(ship.Under(s, k), ship.Upon(s, k)) {
				own[i] = append(own[i], k)
			}
		}
		for i, l := range own {
			if !slices.Equal(append(l, -1)[:1], []int{ship.CoverOf(s, i)}) || len(l) > 1 {
				t.Error(s, i, l)
			}
			covers += len(l)
		}
	})
	if covers < 500 {
		t.Error("too few covers", covers)
	}
}

func TestColumnsAreBesideOneAnother(t *testing.T) {
	met := map[int]int{}
	eachRight(t, 4, func(s api.Ship) {
		for i := range s.Columns {
			beside := ship.Beside(s, i)
			met[len(beside)]++
			for _, j := range beside {
				if !slices.Contains(ship.Beside(s, j), i) {
					t.Error(s, i, j)
				}
			}
		}
	})
	if len(met) != 3 || met[0] == 0 || met[1] == 0 || met[2] == 0 {
		t.Error("not 0 to 2 columns", met)
	}
}

func TestBaysAreApartAsOnALine(t *testing.T) {
	eachRight(t, 5, func(s api.Ship) {
		// How far each column is from the first bay tells how far any two are from one another.
		s.Columns = append(s.Columns, at(0, 29, true))
		last := len(s.Columns) - 1
		for i := range s.Columns {
			for j := range s.Columns {
				n, ok := ship.Apart(s, i, j)
				m, also := ship.Apart(s, j, i)
				a, _ := ship.Apart(s, i, last)
				b, _ := ship.Apart(s, j, last)
				if !ok || !also || n != m || n != a-b && n != b-a || n < 0 {
					t.Error(s, i, j, n, m, a, b)
				}
			}
		}
	})
}

func TestAShipStaysRightWithoutAColumnOrACover(t *testing.T) {
	eachRight(t, 6, func(s api.Ship) {
		for i := range s.Columns {
			less := copied(s)
			less.Columns = slices.Delete(less.Columns, i, i+1)
			if ship.Right(less) != (len(s.Columns) > 1) {
				t.Error(s, "without the column", i)
			}
		}
		for k := range s.Covers {
			less := copied(s)
			less.Covers = slices.Delete(less.Covers, k, k+1)
			if !ship.Right(less) {
				t.Error(s, "without the cover", k)
			}
		}
	})
}

func TestPlacesAndTiers(t *testing.T) {
	eachRight(t, 7, func(s api.Ship) {
		tallest, places := 0, 0
		for _, c := range s.Columns {
			tallest = max(tallest, c.Tiers)
			places += c.Tiers + c.Tiers
		}
		if ship.Tallest(s) != tallest || ship.Places(s) != places {
			t.Error(s, ship.Tallest(s), ship.Places(s))
		}
	})
}
