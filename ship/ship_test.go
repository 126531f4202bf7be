package ship_test

import (
	"math"
	"math/rand"
	"reflect"
	"slices"
	"testing"

	"twistlock/api"
	"twistlock/ship"
)

// example is the ship of the chapter's examples.
func example() api.Ship {
	return api.Ship{
		Columns: []api.Column{
			{Tiers: 2},
			{Row: 1, Tiers: 2},
			{Deck: true, Tiers: 3},
			{Row: 1, Deck: true, Tiers: 3},
			{Bay: 1, Row: 1, Deck: true, Tiers: 4},
		},
		Covers: []api.Cover{{Rows: []int{0, 1}}},
	}
}

// one returns a ship with one column.
func one(c api.Column) api.Ship {
	return api.Ship{Columns: []api.Column{c}}
}

// covered returns a ship with these covers, and one column.
func covered(l ...api.Cover) api.Ship {
	return api.Ship{Columns: []api.Column{{Tiers: 1}}, Covers: l}
}

// at returns a column of a bay and a row, on deck or in the hold.
func at(bay, row int, deck bool) api.Column {
	return api.Column{Bay: bay, Row: row, Deck: deck, Tiers: 1}
}

// over returns a cover over rows of a bay.
func over(bay int, rows ...int) api.Cover {
	return api.Cover{Bay: bay, Rows: rows}
}

// many returns a ship with so many right columns and covers, all at different places.
func many(columns, covers int) api.Ship {
	var s api.Ship
	for i := range columns {
		s.Columns = append(s.Columns, at(i%40, i/40%31, i/40/31 > 0))
	}
	for i := range covers {
		s.Covers = append(s.Covers, over(i%40, i/40))
	}
	return s
}

// spare returns a list with room for more elements.
func spare[T any](l []T) []T {
	return append(make([]T, 0, len(l)+3), l...)
}

// copied returns a ship that shares no memory with another one; each of its lists has room for more elements, which are zero.
func copied(s api.Ship) api.Ship {
	s.Columns, s.Covers = spare(s.Columns), spare(s.Covers)
	for i := range s.Columns {
		s.Columns[i].Plugs = spare(s.Columns[i].Plugs)
	}
	for i := range s.Covers {
		s.Covers[i].Rows = spare(s.Covers[i].Rows)
	}
	return s
}

// whole returns a ship with its spare columns and covers, and their spare plugs and rows.
func whole(s api.Ship) api.Ship {
	s.Columns, s.Covers = slices.Clone(s.Columns[:cap(s.Columns)]), slices.Clone(s.Covers[:cap(s.Covers)])
	for i, c := range s.Columns {
		s.Columns[i].Plugs = c.Plugs[:cap(c.Plugs)]
	}
	for i, c := range s.Covers {
		s.Covers[i].Rows = c.Rows[:cap(c.Rows)]
	}
	return s
}

// untouched reports whether a ship that was copied is as it was, and its spare capacity too.
func untouched(s, was api.Ship) bool {
	return reflect.DeepEqual(whole(s), whole(copied(was)))
}

// extremes are numbers far from all limits, some of which are near to them in 32 bits.
var extremes = []int{math.MinInt, math.MinInt + 1, -1 << 32, 1 << 32, 1<<32 + 1, 1<<32 + 5, -1<<32 + 5, math.MaxInt - 1, math.MaxInt}

// P7.1

// field is a number of a column, and its limits.
type field struct {
	name        string
	set         func(c *api.Column, n int)
	least, most int
}

func fields() []field {
	return []field{
		{"bay", func(c *api.Column, n int) { c.Bay = n }, 0, 39},
		{"row", func(c *api.Column, n int) { c.Row = n }, 0, 30},
		{"tiers", func(c *api.Column, n int) { c.Tiers = n }, 1, 10},
		{"height", func(c *api.Column, n int) { c.Height = n }, 0, 40000},
		{"kilos 20", func(c *api.Column, n int) { c.Kilos20 = n }, 0, 500000000},
		{"kilos 40", func(c *api.Column, n int) { c.Kilos40 = n }, 0, 500000000},
		{"lash", func(c *api.Column, n int) { c.Lash = n }, 0, 1000000000000},
		{"x", func(c *api.Column, n int) { c.X = n }, -500000, 500000},
		{"y", func(c *api.Column, n int) { c.Y = n }, -500000, 500000},
		{"z", func(c *api.Column, n int) { c.Z = n }, -500000, 500000},
	}
}

// around returns numbers at and beside the limits of a field, some between, and some far away.
func around(f field) []int {
	l := []int{f.least - 1, f.least, f.least + 1, (f.least + f.most) / 2, f.most - 1, f.most, f.most + 1, -f.most, -f.most - 1, f.most * 2}
	return append(l, extremes...)
}

func TestLimitsOfAColumn(t *testing.T) {
	for _, f := range fields() {
		for _, n := range around(f) {
			for index := range example().Columns {
				s := example()
				// Another bay and another row keep it away from the other columns, whatever is tried.
				s.Columns[index].Bay, s.Columns[index].Row = 7, 7
				f.set(&s.Columns[index], n)
				if got, want := ship.Right(s), f.least <= n && n <= f.most; got != want {
					t.Error(f.name, n, index, got)
				}
			}
		}
	}
}

func TestColumnsAtAllLimits(t *testing.T) {
	var least, most api.Column
	for _, f := range fields() {
		f.set(&least, f.least)
		f.set(&most, f.most)
	}
	most.Plugs = []int{0, 1, 2, 3, 4, 5, 6, 7, 8, 9}
	for _, deck := range []bool{false, true} {
		least.Deck, most.Deck = deck, deck
		if !ship.Right(one(least)) || !ship.Right(one(most)) || !ship.Right(api.Ship{Columns: []api.Column{most, least}}) {
			t.Error(deck)
		}
	}
}

// sequences calls f with each sequence of up to so many numbers from least to most.
func sequences(length, least, most int, f func(l []int)) {
	var extend func(l []int)
	extend = func(l []int) {
		f(l)
		if len(l) == length {
			return
		}
		for n := least; n <= most; n++ {
			extend(append(slices.Clone(l), n))
		}
	}
	extend(nil)
}

// strictly reports whether each number is from 0 to most, and less than all that follow.
func strictly(l []int, most int) bool {
	for i, n := range l {
		if n < 0 || n > most {
			return false
		}
		for _, next := range l[i+1:] {
			if next <= n {
				return false
			}
		}
	}
	return true
}

func TestPlugs(t *testing.T) {
	for tiers := 1; tiers <= 4; tiers++ {
		right := 0
		sequences(4, -1, tiers, func(l []int) {
			want := strictly(l, tiers-1)
			if want {
				right++
			}
			if got := ship.Right(one(api.Column{Tiers: tiers, Plugs: l})); got != want {
				t.Error(tiers, l, got)
			}
		})
		if right != 1<<tiers {
			t.Error("not every set of plugs is tried", tiers, right)
		}
	}
	for _, n := range extremes {
		for _, l := range [][]int{{n}, {0, n}, {n, 0}, {0, n, 9}} {
			if ship.Right(one(api.Column{Tiers: 10, Plugs: l})) {
				t.Error(l)
			}
		}
	}
	if ship.Right(one(api.Column{Tiers: 10, Plugs: []int{0, 1, 2, 3, 4, 5, 6, 7, 8, 9, 10}})) || ship.Right(one(api.Column{Tiers: 10, Plugs: make([]int, 1000000)})) {
		t.Error("too many")
	}
}

func TestPlugsOfEachColumn(t *testing.T) {
	for index := range example().Columns {
		s := example()
		s.Columns[index].Plugs = []int{0, 1}
		if !ship.Right(s) {
			t.Error(index)
		}
		s.Columns[index].Plugs = []int{1, 1}
		if ship.Right(s) {
			t.Error(index, "twice")
		}
	}
}

func TestColumnsAtOnePlace(t *testing.T) {
	other := api.Column{Bay: 3, Row: 4, Deck: true, Tiers: 5, Height: 6, Kilos20: 7, Kilos40: 8, Lash: 9, Plugs: []int{1}, X: 2, Y: 3, Z: 4}
	for i, x := range []struct {
		l    []api.Column
		want bool
	}{
		{[]api.Column{at(3, 4, true), other}, false},
		{[]api.Column{at(3, 4, false), other}, true},
		{[]api.Column{at(2, 4, true), other}, true},
		{[]api.Column{at(3, 5, true), other}, true},
		{[]api.Column{at(4, 3, true), other}, true},
		{[]api.Column{other, at(4, 4, true), at(3, 4, false), at(3, 4, true)}, false},
		{[]api.Column{at(4, 4, true), other, other, at(3, 4, false)}, false},
		{[]api.Column{at(0, 0, false), at(0, 0, false)}, false},
		{[]api.Column{at(0, 0, false), at(0, 0, true)}, true},
		{[]api.Column{at(0, 1, false), at(1, 0, false), at(0, 0, true)}, true},
		{[]api.Column{at(0, 30, true), at(1, 0, true), at(1, 30, false), at(30, 1, false)}, true},
	} {
		if got := ship.Right(api.Ship{Columns: x.l}); got != x.want {
			t.Error(i, got)
		}
	}
}

func TestHowManyColumnsAndCovers(t *testing.T) {
	for _, x := range []struct {
		columns, covers int
		want            bool
	}{
		{0, 0, false}, {0, 1, false}, {0, 40, false}, {1, 0, true}, {1, 40, true}, {199, 39, true}, {200, 0, true}, {200, 40, true},
		{201, 0, false}, {201, 40, false}, {200, 41, false}, {1, 41, false}, {1, 1000, false}, {2480, 0, false}, {1000000, 0, false},
	} {
		if got := ship.Right(many(x.columns, x.covers)); got != x.want {
			t.Error(x.columns, x.covers, got)
		}
	}
	if ship.Right(api.Ship{}) || ship.Right(api.Ship{Columns: []api.Column{}, Covers: []api.Cover{over(0, 0)}}) || ship.Right(one(api.Column{})) {
		t.Error("without a right column")
	}
}

func TestBayOfACover(t *testing.T) {
	for _, bay := range append([]int{-41, -2, -1, 0, 1, 38, 39, 40, 41}, extremes...) {
		for index := range 3 {
			l := []api.Cover{over(4, 0), over(5, 0), over(6, 0)}
			l[index] = over(bay, 1, 2)
			if got, want := ship.Right(covered(l...)), bay >= 0 && bay < 40; got != want {
				t.Error(bay, index, got)
			}
		}
	}
}

func TestRowsOfACover(t *testing.T) {
	for _, base := range []int{0, 28} {
		sequences(3, -1, 5, func(rows []int) {
			l := slices.Clone(rows)
			for i := range l {
				l[i] += base
			}
			want := len(l) > 0 && strictly(l, 30)
			if got := ship.Right(covered(over(2, l...))); got != want {
				t.Error(l, got)
			}
			if got := ship.Right(covered(over(1, 3), over(2, l...), over(3, 3))); got != want {
				t.Error(l, got, "between others")
			}
		})
	}
	for _, n := range extremes {
		for _, l := range [][]int{{n}, {0, n}, {n, 0}} {
			if ship.Right(covered(over(0, l...))) {
				t.Error(l)
			}
		}
	}
	var all []int
	for row := range 31 {
		all = append(all, row)
	}
	if !ship.Right(covered(over(0, all...))) || ship.Right(covered(over(0, append(all, 31)...))) || ship.Right(covered(over(0, make([]int, 1000000)...))) {
		t.Error("all rows")
	}
}

func TestRowsInTwoCovers(t *testing.T) {
	for i, x := range []struct {
		l    []api.Cover
		want bool
	}{
		{[]api.Cover{over(2, 1), over(2, 1)}, false},
		{[]api.Cover{over(2, 1), over(3, 1)}, true},
		{[]api.Cover{over(2, 1), over(1, 2)}, true},
		{[]api.Cover{over(0, 30), over(1, 0), over(30, 1), over(1, 30)}, true},
		{[]api.Cover{over(2, 0, 2), over(2, 1, 3)}, true},
		{[]api.Cover{over(2, 0, 2), over(2, 1, 2)}, false},
		{[]api.Cover{over(2, 5, 6, 7), over(2, 0, 1, 5)}, false},
		{[]api.Cover{over(2, 5, 6, 7), over(2, 0, 1, 7)}, false},
		{[]api.Cover{over(2, 5, 6, 7), over(2, 6, 8, 9)}, false},
		{[]api.Cover{over(2, 5, 6, 7), over(2, 8, 9), over(2, 0, 1, 2)}, true},
		{[]api.Cover{over(2, 5, 6, 7), over(2, 8, 9), over(3, 5, 6, 7), over(2, 7)}, false},
		{[]api.Cover{over(2, 5, 6, 7), over(2, 8, 9), over(3, 5, 6, 7), over(3, 5)}, false},
	} {
		if got := ship.Right(covered(x.l...)); got != x.want {
			t.Error(i, got)
		}
	}
}

func TestCoversNeedNoColumns(t *testing.T) {
	for i, s := range []api.Ship{
		{Columns: []api.Column{at(0, 0, false)}, Covers: []api.Cover{over(39, 0, 30)}},
		{Columns: []api.Column{at(0, 0, false)}, Covers: []api.Cover{over(0, 0)}},
		{Columns: []api.Column{at(0, 0, true)}, Covers: []api.Cover{over(0, 0)}},
		{Columns: []api.Column{at(0, 0, true), at(0, 2, false)}, Covers: []api.Cover{over(0, 1), over(0, 3), over(1, 0)}},
	} {
		if !ship.Right(s) {
			t.Error(i)
		}
	}
}

func TestOtherPartsOfAShipAreNotLookedAt(t *testing.T) {
	s := example()
	s.Light = api.Light{Kilos: -1, X: math.MaxInt, Y: math.MinInt, Z: -1}
	s.Rows = make([]api.Row, 1000)
	s.Frames = []api.Frame{{X: 9}, {X: 1, Light: -1, Share: -1, Shear: -1, Bend: -1}}
	s.Tanks = []api.Tank{{Kilos: -1, Surface: -1, Steps: []int{5, 3, -1}}}
	s.Limits = api.Limits{Tolerance: -1, Trim: -1, List: -1, Stability: -1}
	if !ship.Right(s) {
		t.Error("not right")
	}
	s.Columns = nil
	if ship.Right(s) {
		t.Error("right without a column")
	}
}

// faults returns why the columns and covers of a ship are not right.
func faults(s api.Ship) map[string]bool {
	why := map[string]bool{}
	because := func(wrong bool, reason string) {
		if wrong {
			why[reason] = true
		}
	}
	because(len(s.Columns) < 1 || len(s.Columns) > 200, "columns")
	because(len(s.Covers) > 40, "covers")
	for i, c := range s.Columns {
		for _, f := range fields() {
			n := map[string]int{"bay": c.Bay, "row": c.Row, "tiers": c.Tiers, "height": c.Height, "kilos 20": c.Kilos20, "kilos 40": c.Kilos40, "lash": c.Lash, "x": c.X, "y": c.Y, "z": c.Z}[f.name]
			because(n < f.least || n > f.most, f.name)
		}
		because(!strictly(c.Plugs, c.Tiers-1), "plugs")
		for _, other := range s.Columns[:i] {
			because(c.Bay == other.Bay && c.Row == other.Row && c.Deck == other.Deck, "place")
		}
	}
	for i, c := range s.Covers {
		because(c.Bay < 0 || c.Bay >= 40, "bay of a cover")
		because(len(c.Rows) == 0, "no rows")
		because(!strictly(c.Rows, 30), "rows")
		for _, other := range s.Covers[:i] {
			both := slices.ContainsFunc(c.Rows, func(row int) bool { return slices.Contains(other.Rows, row) })
			because(c.Bay == other.Bay && both, "row in two")
		}
	}
	return why
}

// seldom returns one number, seldom another one.
func seldom(r *rand.Rand, n, other int) int {
	if r.Intn(60) == 0 {
		return other
	}
	return n
}

// chosen returns some of the numbers from 0 to less than n, in order, or seldom in another order, or one of them twice.
func chosen(r *rand.Rand, n int) []int {
	var l []int
	for i := range n {
		if r.Intn(2) == 0 {
			l = append(l, i)
		}
	}
	if len(l) > 1 && r.Intn(20) == 0 {
		l[r.Intn(len(l))] = l[r.Intn(len(l))]
	}
	return l
}

// someColumn returns a column that is mostly right.
func someColumn(r *rand.Rand) api.Column {
	c := api.Column{Bay: r.Intn(4), Row: r.Intn(6), Deck: r.Intn(2) == 0, Tiers: 1 + r.Intn(4)}
	c.Plugs = chosen(r, seldom(r, c.Tiers, c.Tiers+1))
	for _, f := range fields() {
		if r.Intn(200) == 0 {
			f.set(&c, []int{f.least - 1, f.least, f.most, f.most + 1}[r.Intn(4)])
		}
	}
	return c
}

// someShip returns a ship that is often right.
func someShip(r *rand.Rand) api.Ship {
	var s api.Ship
	for range r.Intn(7) {
		s.Columns = append(s.Columns, someColumn(r))
	}
	for range r.Intn(4) {
		s.Covers = append(s.Covers, over(seldom(r, r.Intn(4), 40), chosen(r, 4)...))
	}
	return s
}

func TestRightOfAnyShip(t *testing.T) {
	r := rand.New(rand.NewSource(1))
	right, once := 0, map[string]int{}
	for range 25000 {
		was := someShip(r)
		s := copied(was)
		why := faults(s)
		if got := ship.Right(s); got != (len(why) == 0) {
			t.Fatal(s, got, why)
		}
		if !untouched(s, was) {
			t.Fatal(was, "now", s)
		}
		if len(why) == 0 {
			right++
		}
		for reason := range why {
			if len(why) == 1 {
				once[reason]++
			}
		}
	}
	// All reasons but that there are too many covers.
	if right < 2000 || len(once) != 17 {
		t.Error("not every reason is met alone", right, once)
	}
}

func TestConstants(t *testing.T) {
	if ship.MaxRow != 30 || ship.MaxHeight != 40000 || ship.MaxLash != 1000000000000 {
		t.Error(ship.MaxRow, ship.MaxHeight, ship.MaxLash)
	}
}
