package slot_test

import (
	"math"
	"math/rand"
	"reflect"
	"slices"
	"testing"

	"twistlock/api"
	"twistlock/slot"
)

// example is the ship of the chapter's examples.
func example() api.Ship {
	return api.Ship{
		Columns: []api.Column{
			{Tiers: 2},
			{Row: 1, Tiers: 2},
			{Deck: true, Tiers: 3},
			{Row: 1, Deck: true, Tiers: 3},
			{Bay: 1, Row: 1, Deck: true, Tiers: 4},
		},
		Covers: []api.Cover{{Rows: []int{0, 1}}},
	}
}

// tall returns a ship, mostly not right, whose columns have so many tiers.
func tall(tiers ...int) api.Ship {
	var s api.Ship
	for _, n := range tiers {
		s.Columns = append(s.Columns, api.Column{Bay: -3, Row: 99, Tiers: n, Plugs: []int{5, 2}})
	}
	return s
}

// at returns a slot.
func at(column, tier int, half uint8) api.Slot {
	return api.Slot{Column: column, Tier: tier, Half: half}
}

// extremes are numbers far away, some of which are near in 32 bits.
var extremes = []int{math.MinInt, math.MinInt + 1, -1 << 32, -1<<32 + 1, 1 << 32, 1<<32 + 1, math.MaxInt - 1, math.MaxInt}

// spare returns a list with room for more elements.
func spare[T any](l []T) []T {
	return append(make([]T, 0, len(l)+3), l...)
}

// copied returns a ship that shares no memory with another one; each of its lists has room for more elements, which are zero.
func copied(s api.Ship) api.Ship {
	s.Columns, s.Covers = spare(s.Columns), spare(s.Covers)
	for i := range s.Columns {
		s.Columns[i].Plugs = spare(s.Columns[i].Plugs)
	}
	for i := range s.Covers {
		s.Covers[i].Rows = spare(s.Covers[i].Rows)
	}
	return s
}

// whole returns a ship with its spare columns and covers, and their spare plugs and rows.
func whole(s api.Ship) api.Ship {
	s.Columns, s.Covers = slices.Clone(s.Columns[:cap(s.Columns)]), slices.Clone(s.Covers[:cap(s.Covers)])
	for i, c := range s.Columns {
		s.Columns[i].Plugs = c.Plugs[:cap(c.Plugs)]
	}
	for i, c := range s.Covers {
		s.Covers[i].Rows = c.Rows[:cap(c.Rows)]
	}
	return s
}

// untouched reports whether a ship that was copied is as it was, and its spare capacity too.
func untouched(s, was api.Ship) bool {
	return reflect.DeepEqual(whole(s), whole(copied(was)))
}

// expected returns the slots of a ship for boxes of a size, those of one column after the other.
func expected(s api.Ship, size uint8) []api.Slot {
	var l []api.Slot
	for column, c := range s.Columns {
		for tier := 0; tier < c.Tiers; tier++ {
			if size == 40 {
				l = append(l, at(column, tier, 0))
			}
			if size == 20 {
				l = append(l, at(column, tier, 1), at(column, tier, 2))
			}
		}
	}
	return l
}

// ships returns ships, right and not, of few slots.
func ships() []api.Ship {
	return []api.Ship{
		{}, example(), tall(1), tall(0), tall(-1), tall(10, 10), tall(2, -7, 0, 11, 1), tall(math.MinInt, 3, math.MinInt), tall(-1<<32+5, 1), tall(300),
		{Columns: []api.Column{}, Covers: []api.Cover{{Bay: 7, Rows: []int{3, 3}}}},
	}
}

// P8.1

func TestAllOfTheExample(t *testing.T) {
	want := []api.Slot{
		at(0, 0, 0), at(0, 1, 0), at(1, 0, 0), at(1, 1, 0),
		at(2, 0, 0), at(2, 1, 0), at(2, 2, 0), at(3, 0, 0), at(3, 1, 0), at(3, 2, 0),
		at(4, 0, 0), at(4, 1, 0), at(4, 2, 0), at(4, 3, 0),
	}
	if got := slot.All(example(), 40); !slices.Equal(got, want) {
		t.Error(got)
	}
	var halves []api.Slot
	for _, x := range want {
		halves = append(halves, at(x.Column, x.Tier, 1), at(x.Column, x.Tier, 2))
	}
	if got := slot.All(example(), 20); !slices.Equal(got, halves) {
		t.Error(got)
	}
}

func TestAllOfAnySize(t *testing.T) {
	for i, was := range ships() {
		for size := range 256 {
			s := copied(was)
			got := slot.All(s, uint8(size))
			if !slices.Equal(got, expected(was, uint8(size))) || !slices.IsSortedFunc(got, slot.Compare) {
				t.Error(i, size, got)
			}
			if !untouched(s, was) {
				t.Error(i, size, s)
			}
		}
	}
}

func TestAllOfTheLargestShip(t *testing.T) {
	var s api.Ship
	for i := range 200 {
		s.Columns = append(s.Columns, api.Column{Bay: i % 40, Row: i / 40, Tiers: 10})
	}
	for _, size := range []uint8{20, 40} {
		if got := slot.All(s, size); !slices.Equal(got, expected(s, size)) || len(got) != 80000/int(size) {
			t.Error(size, len(got))
		}
	}
}

func TestAllOfManyTiers(t *testing.T) {
	s := tall(100000, -1, 200001)
	for _, size := range []uint8{20, 40} {
		if got := slot.All(s, size); !slices.Equal(got, expected(s, size)) {
			t.Error(size, len(got))
		}
	}
}

func TestAllOfTooManyTiersEnds(t *testing.T) {
	for _, s := range []api.Ship{
		tall(math.MaxInt), tall(math.MaxInt, math.MaxInt), tall(1, math.MaxInt), tall(1<<62, 1<<62, 1<<62, 1<<62, 3), tall(math.MaxInt, math.MinInt, 2), tall(1<<40, -1<<40), tall(1<<32 + 1), tall(1<<63 - 1<<32),
		// Too many only together.
		tall(30000000, 30000000, 30000000),
		{Columns: slices.Repeat([]api.Column{{Tiers: 1 << 57}}, 1024)},
	} {
		for size := range 256 {
			if got := slot.All(s, uint8(size)); len(got) != 0 {
				t.Error(size, len(got))
			}
		}
	}
}

func TestAllOfOneTierTooManyEnds(t *testing.T) {
	// One slot more than 2^31 - 1 bytes hold, if each has 24.
	if got := slot.All(tall(0, 44739243), 20); len(got) != 0 {
		t.Error(20, len(got))
	}
	if got := slot.All(tall(89478486, 0), 40); len(got) != 0 {
		t.Error(40, len(got))
	}
}

func TestAllIsNewMemory(t *testing.T) {
	s := example()
	got, again := slot.All(s, 20), slot.All(s, 20)
	for i := range got {
		got[i] = at(9, 9, 9)
	}
	if !slices.Equal(again, expected(example(), 20)) || !slices.Equal(slot.All(s, 20), again) {
		t.Error(again)
	}
}

func TestRightOfAnySlot(t *testing.T) {
	for i, was := range ships() {
		var columns, tiers []int
		for n := -2; n < 14; n++ {
			columns, tiers = append(columns, n), append(tiers, n)
		}
		columns, tiers = append(columns, extremes...), append(tiers, extremes...)
		tiers = append(tiers, 299, 300)
		s := copied(was)
		for size := range 256 {
			known := map[api.Slot]bool{}
			for _, x := range expected(was, uint8(size)) {
				known[x] = true
			}
			for _, column := range columns {
				for _, tier := range tiers {
					for _, half := range []uint8{0, 1, 2, 3, 4, 20, 40, 128, 254, 255} {
						x := at(column, tier, half)
						if got := slot.Right(s, x, uint8(size)); got != known[x] {
							t.Error(i, x, size, got)
						}
					}
				}
			}
		}
		if !untouched(s, was) {
			t.Error(i, s)
		}
	}
}

func TestRightOfAnyHalf(t *testing.T) {
	for half := range 256 {
		for size := range 256 {
			want := half == 0 && size == 40 || (half == 1 || half == 2) && size == 20
			if got := slot.Right(example(), at(4, 3, uint8(half)), uint8(size)); got != want {
				t.Error(half, size, got)
			}
		}
	}
}

func TestRightInATallColumn(t *testing.T) {
	s := tall(math.MaxInt, math.MinInt)
	for _, tier := range append([]int{-1, 0, 1, 1000}, extremes...) {
		want := tier >= 0 && tier != math.MaxInt
		if got := slot.Right(s, at(0, tier, 0), 40); got != want {
			t.Error(tier, got)
		}
		if slot.Right(s, at(1, tier, 0), 40) {
			t.Error(tier, "without a tier")
		}
	}
}

// P8.2

// some returns slots with few columns, tiers and halves, many of which meet, or are over one another.
func some() []api.Slot {
	var l []api.Slot
	numbers := []int{math.MinInt, -1, 0, 1, 2, math.MaxInt}
	for _, column := range numbers {
		for _, tier := range numbers {
			for _, half := range []uint8{0, 1, 2, 3, 255} {
				l = append(l, at(column, tier, half))
			}
		}
	}
	return l
}

func TestCompareBySlotsInOrder(t *testing.T) {
	// The slots are in order, so that their indices tell how they compare.
	l := some()
	for i, a := range l {
		for j, b := range l {
			want := 0
			if i < j {
				want = -1
			} else if i > j {
				want = 1
			}
			if got := slot.Compare(a, b); got != want {
				t.Error(a, b, got)
			}
		}
	}
}

// takes reports whether a slot takes a half of its tier, whatever halves there may be.
func takes(x api.Slot, half uint8) bool {
	return x.Half == 0 || x.Half == half
}

// both reports whether two slots take the same half.
func both(a, b api.Slot) bool {
	for half := 1; half < 256; half++ {
		if takes(a, uint8(half)) && takes(b, uint8(half)) {
			return true
		}
	}
	return false
}

func TestMeetAndOver(t *testing.T) {
	l := some()
	for _, a := range l {
		for _, b := range l {
			meet := a.Column == b.Column && a.Tier == b.Tier && both(a, b)
			over := a.Column == b.Column && a.Tier > b.Tier && both(a, b)
			if slot.Meet(a, b) != meet || slot.Over(a, b) != over {
				t.Error(a, b, slot.Meet(a, b), slot.Over(a, b))
			}
		}
	}
}

func TestMeetAndOverOfHalves(t *testing.T) {
	for i, x := range []struct {
		a, b uint8
		want bool
	}{
		{0, 0, true}, {0, 1, true}, {0, 2, true}, {1, 0, true}, {2, 0, true}, {1, 1, true}, {2, 2, true}, {1, 2, false}, {2, 1, false},
		{3, 3, true}, {3, 0, true}, {0, 3, true}, {3, 1, false}, {2, 3, false}, {255, 255, true}, {255, 0, true}, {0, 255, true}, {255, 127, false},
	} {
		a, b := at(4, 6, x.a), at(4, 6, x.b)
		if slot.Meet(a, b) != x.want || slot.Over(a, b) {
			t.Error(i, "in one tier", slot.Meet(a, b), slot.Over(a, b))
		}
		for _, tier := range []int{5, 0, -7, math.MinInt} {
			b := at(4, tier, x.b)
			if slot.Over(a, b) != x.want || slot.Over(b, a) || slot.Meet(a, b) || slot.Meet(b, a) {
				t.Error(i, tier, slot.Over(a, b), slot.Over(b, a))
			}
		}
		for _, column := range []int{3, 5, -4, math.MaxInt} {
			for _, tier := range []int{5, 6, 7} {
				if b := at(column, tier, x.b); slot.Meet(a, b) || slot.Over(a, b) || slot.Over(b, a) {
					t.Error(i, column, tier, "in another column")
				}
			}
		}
	}
}

// P8.3

// standing reports whether a box is held, by what is in the tier below its slot.
func standing(x api.Slot, l []api.Slot) bool {
	held := map[uint8]bool{}
	for _, y := range l {
		if y.Column == x.Column && y.Tier != math.MaxInt && y.Tier+1 == x.Tier {
			held[y.Half] = true
		}
	}
	switch {
	case x.Tier < 1:
		return true
	case x.Half == 0:
		return held[0] || held[1] && held[2]
	}
	return held[x.Half]
}

func TestHeldBySets(t *testing.T) {
	var near []api.Slot
	for _, half := range []uint8{0, 1, 2, 3} {
		near = append(near, at(5, 3, half))
	}
	far := []api.Slot{at(5, 2, 0), at(5, 4, 0), at(5, 2, 1), at(5, 4, 2), at(4, 3, 0), at(6, 3, 1), at(4, 3, 2), at(6, 3, 2), at(5, 0, 0), at(-5, 3, 0), at(3, 5, 0), at(5, -3, 0)}
	for chosen := range 1 << len(near) {
		for _, others := range [][]api.Slot{nil, far, far[:3], {at(5, 4, 0)}} {
			l := slices.Clone(others)
			for i, y := range near {
				if chosen>>i&1 == 1 {
					l = append(l, y)
				}
			}
			for turn := range 2 {
				for _, half := range []uint8{0, 1, 2, 3, 4, 255} {
					x := at(5, 4, half)
					was := spare(l)
					given := spare(l)
					if got := slot.Held(x, given); got != standing(x, l) {
						t.Error(turn, x, l, got)
					}
					if !slices.Equal(given[:cap(given)], was[:cap(was)]) {
						t.Error(x, given)
					}
				}
				slices.Reverse(l)
			}
		}
	}
}

func TestHeldByItsTier(t *testing.T) {
	for _, half := range []uint8{0, 1, 2, 3, 255} {
		for _, tier := range append([]int{-2, -1, 0, 1, 2, 3}, extremes...) {
			if got := slot.Held(at(2, tier, half), nil); got != (tier <= 0) {
				t.Error(tier, half, got)
			}
			below := at(2, tier-1, half)
			if !slot.Held(at(2, tier, half), []api.Slot{at(0, 0, 0), below}) {
				t.Error(tier, half, "is not held")
			}
			if got := slot.Held(at(3, tier, half), []api.Slot{below, at(2, tier, half), at(3, tier, half)}); got != (tier <= 0) {
				t.Error(tier, half, got, "held by another column, or by itself")
			}
		}
	}
}

func TestHeldByTheExamples(t *testing.T) {
	for i, x := range []struct {
		half uint8
		l    []api.Slot
		want bool
	}{
		{0, []api.Slot{at(0, 0, 1), at(0, 0, 2)}, true},
		{0, []api.Slot{at(0, 0, 2), at(0, 0, 1)}, true},
		{0, []api.Slot{at(0, 0, 0)}, true},
		{0, []api.Slot{at(0, 0, 1)}, false},
		{0, []api.Slot{at(0, 0, 2)}, false},
		{0, []api.Slot{at(0, 0, 2), at(0, 0, 2)}, false},
		{0, []api.Slot{at(0, 0, 1), at(0, 0, 1), at(0, 0, 3)}, false},
		{0, []api.Slot{at(0, 0, 1), at(1, 0, 2)}, false},
		{0, []api.Slot{at(0, 0, 1), at(0, 1, 2)}, false},
		{0, []api.Slot{at(0, 0, 0), at(0, 0, 1), at(0, 0, 2)}, true},
		{2, []api.Slot{at(0, 0, 0)}, false},
		{2, []api.Slot{at(0, 0, 1)}, false},
		{2, []api.Slot{at(0, 0, 0), at(0, 0, 1)}, false},
		{2, []api.Slot{at(0, 0, 2)}, true},
		{1, []api.Slot{at(0, 0, 1)}, true},
		{1, []api.Slot{at(0, 0, 2), at(0, 0, 0)}, false},
	} {
		if got := slot.Held(at(0, 1, x.half), x.l); got != x.want {
			t.Error(i, got)
		}
	}
}

// P8.5

func TestMoreBoxesHoldNoLess(t *testing.T) {
	r := rand.New(rand.NewSource(8))
	one := func() api.Slot { return at(r.Intn(2), r.Intn(4)-1, uint8(r.Intn(4))) }
	held := 0
	for range 20000 {
		x := one()
		var l []api.Slot
		before := slot.Held(x, l)
		for range 8 {
			l = slices.Insert(l, r.Intn(len(l)+1), one())
			now := slot.Held(x, l)
			if now != standing(x, l) || before && !now {
				t.Fatal(x, l, now)
			}
			if now && !before {
				held++
			}
			before = now
		}
	}
	if held < 1000 {
		t.Error("seldom held by one box more", held)
	}
}

func TestOrderMeetingAndBeingOver(t *testing.T) {
	l := some()
	for _, a := range l {
		for _, b := range l {
			if slot.Compare(a, b) != -slot.Compare(b, a) || (slot.Compare(a, b) == 0) != (a == b) {
				t.Error(a, b, "order")
			}
			if slot.Meet(a, b) != slot.Meet(b, a) || slot.Over(a, b) && (slot.Over(b, a) || slot.Meet(a, b)) {
				t.Error(a, b, "meeting or being over")
			}
		}
	}
	var few []api.Slot
	for _, x := range l {
		if x.Column < 1 && x.Half < 3 {
			few = append(few, x)
		}
	}
	for _, a := range few {
		for _, b := range few {
			for _, c := range few {
				if slot.Compare(a, b) <= 0 && slot.Compare(b, c) <= 0 && slot.Compare(a, c) > 0 {
					t.Error(a, b, c, "order")
				}
				if a.Half == b.Half && b.Half == c.Half && slot.Over(a, b) && slot.Over(b, c) && !slot.Over(a, c) {
					t.Error(a, b, c, "over")
				}
			}
		}
	}
}
