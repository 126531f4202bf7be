package stack_test

import (
	"math"
	"math/rand"
	"reflect"
	"slices"
	"testing"

	"twistlock/api"
	"twistlock/stack"
	"twistlock/stow"
)

// most is how far from 0 kilos and the tolerance may be.
const most = 1000000000000

// extremes are numbers far away, some of which are near in 32 bits.
var extremes = []int{math.MinInt, math.MinInt + 1, -1 << 32, -1<<32 + 1, 1 << 32, 1<<32 + 1, math.MaxInt - 1, math.MaxInt}

// vessel is what the functions of the package are asked about.
type vessel struct {
	s     api.Ship
	boxes []api.Box
	l     []api.Stowed
}

// at returns a box in a slot.
func at(box, column, tier int, half uint8) api.Stowed {
	return api.Stowed{Box: box, Slot: in(column, tier, half)}
}

// in returns a slot.
func in(column, tier int, half uint8) api.Slot {
	return api.Slot{Column: column, Tier: tier, Half: half}
}

// example is the ship of the examples, with their boxes; 1 and 2 stand fore and aft, 3 upon both.
func example() vessel {
	v := vessel{
		s: api.Ship{
			Columns: []api.Column{
				{Tiers: 2},
				{Row: 1, Tiers: 2},
				{Deck: true, Tiers: 3},
				{Row: 1, Deck: true, Tiers: 3},
				{Bay: 1, Row: 1, Deck: true, Tiers: 4},
			},
			Covers: []api.Cover{{Rows: []int{0, 1}}},
			Limits: api.Limits{Tolerance: 2000},
		},
		boxes: []api.Box{{ID: 1, Size: 20, Kilos: 15000}, {ID: 2, Size: 20, Kilos: 9000}, {ID: 3, Size: 40, Kilos: 26000}, {ID: 4, Size: 20, Kilos: 12000}},
		l:     []api.Stowed{at(1, 2, 0, 1), at(2, 2, 0, 2), at(3, 2, 1, 0)},
	}
	for i := range v.s.Columns {
		v.s.Columns[i].Kilos20, v.s.Columns[i].Kilos40 = 30000, 50000
	}
	return v
}

// spare returns a list with room for more elements.
func spare[T any](l []T) []T {
	return append(make([]T, 0, len(l)+3), l...)
}

// copied returns what shares no memory with v; each of its lists has room for more elements, which are zero.
func (v vessel) copied() vessel {
	s := v.s
	s.Columns, s.Covers = spare(s.Columns), spare(s.Covers)
	for i := range s.Columns {
		s.Columns[i].Plugs = spare(s.Columns[i].Plugs)
	}
	for i := range s.Covers {
		s.Covers[i].Rows = spare(s.Covers[i].Rows)
	}
	return vessel{s, spare(v.boxes), spare(v.l)}
}

// whole returns v with all that is spare.
func (v vessel) whole() vessel {
	s := v.s
	s.Columns, s.Covers = slices.Clone(s.Columns[:cap(s.Columns)]), slices.Clone(s.Covers[:cap(s.Covers)])
	for i, c := range s.Columns {
		s.Columns[i].Plugs = c.Plugs[:cap(c.Plugs)]
	}
	for i, c := range s.Covers {
		s.Covers[i].Rows = c.Rows[:cap(c.Rows)]
	}
	return vessel{s, v.boxes[:cap(v.boxes)], v.l[:cap(v.l)]}
}

// asked lets f ask about a copy of v, of which nothing may change.
func asked[T any](t *testing.T, v vessel, f func(vessel) T) T {
	t.Helper()
	c := v.copied()
	got := f(c)
	if !reflect.DeepEqual(c.whole(), v.copied().whole()) {
		t.Error("an argument is not as it was", c)
	}
	return got
}

// own returns a copy of faults, all memory of which is overwritten.
func own(l []stack.Fault) []stack.Fault {
	kept := slices.Clone(l)
	clear(l[:cap(l)])
	return kept
}

func (v vessel) weigh(t *testing.T, column int) stack.Kilos {
	t.Helper()
	return asked(t, v, func(v vessel) stack.Kilos { return stack.Weigh(v.boxes, v.l, column) })
}

func (v vessel) below(t *testing.T, x api.Slot) int {
	t.Helper()
	return asked(t, v, func(v vessel) int { return stack.Below(v.boxes, v.l, x) })
}

func (v vessel) faults(t *testing.T, column int) []stack.Fault {
	t.Helper()
	return asked(t, v, func(v vessel) []stack.Fault { return own(stack.Faults(v.s, v.boxes, v.l, column)) })
}

func (v vessel) check(t *testing.T) ([]stack.Fault, api.Errno) {
	t.Helper()
	var e api.Errno
	got := asked(t, v, func(v vessel) []stack.Fault {
		var l []stack.Fault
		l, e = stack.Check(v.s, v.boxes, v.l)
		return own(l)
	})
	if e != api.OK && len(got) > 0 {
		t.Error("faults with an error", got, e)
	}
	return got, e
}

func (v vessel) room(t *testing.T, x api.Slot) int {
	t.Helper()
	return asked(t, v, func(v vessel) int { return stack.Room(v.s, v.boxes, v.l, x) })
}

// first returns the kilos of each ID.
func (v vessel) first() map[int]int {
	kilos := map[int]int{}
	for _, b := range v.boxes {
		if _, met := kilos[b.ID]; !met {
			kilos[b.ID] = b.Kilos
		}
	}
	return kilos
}

// wantWeigh returns the kilos of a column, from what is in each half, of whatever number.
func (v vessel) wantWeigh(column int) stack.Kilos {
	var halves [256]int
	kilos := v.first()
	for _, x := range v.l {
		if x.Slot.Column == column {
			halves[x.Slot.Half] += kilos[x.Box]
		}
	}
	all := 0
	for _, n := range halves {
		all += n
	}
	return stack.Kilos{Fore: halves[1], Aft: halves[2], All: all}
}

// wantBelow returns the kilos of what is below a slot.
func (v vessel) wantBelow(x api.Slot) int {
	sum := 0
	kilos := v.first()
	for _, y := range v.l {
		product := int(x.Half) * int(y.Slot.Half) // 0 if one is the whole
		switch {
		case y.Slot.Column != x.Column, y.Slot.Tier == math.MaxInt, y.Slot.Tier+1 != x.Tier:
		case product == 0, product == int(x.Half)*int(x.Half):
			sum += kilos[y.Box]
		}
	}
	return sum
}

// has reports whether a ship has a column.
func (v vessel) has(column int) bool {
	for i := range v.s.Columns {
		if i == column {
			return true
		}
	}
	return false
}

// wantFaults returns the faults of a column.
func (v vessel) wantFaults(column int) []stack.Fault {
	if !v.has(column) {
		return nil
	}
	var l []stack.Fault
	c, k := v.s.Columns[column], v.wantWeigh(column)
	for i, over := range []int{k.Fore - c.Kilos20, k.Aft - c.Kilos20, k.All - c.Kilos40} {
		if over > 0 {
			l = append(l, stack.Fault{Column: column, Kind: uint8(i + 1)})
		}
	}
	kilos := v.first()
	for _, x := range v.l {
		if x.Slot.Column == column && c.Deck && x.Slot.Tier >= 1 && kilos[x.Box]-v.s.Limits.Tolerance > v.wantBelow(x.Slot) {
			l = append(l, stack.Fault{Column: column, Kind: 4, Box: x.Box})
		}
	}
	return l
}

// wantRoom returns the room in a slot, from all that limits it.
func (v vessel) wantRoom(x api.Slot) int {
	if !v.has(x.Column) {
		return 0
	}
	c, k := v.s.Columns[x.Column], v.wantWeigh(x.Column)
	limits := []int{c.Kilos40 - k.All}
	if x.Half == 1 {
		limits = append(limits, c.Kilos20-k.Fore)
	}
	if x.Half == 2 {
		limits = append(limits, c.Kilos20-k.Aft)
	}
	if c.Deck && x.Tier >= 1 {
		limits = append(limits, v.wantBelow(x)+v.s.Limits.Tolerance)
	}
	slices.Sort(limits)
	if limits[0] < 0 {
		return 0
	}
	return limits[0]
}

// compare compares all that there is about some columns and slots with what is expected.
func (v vessel) compare(t *testing.T, columns []int, slots []api.Slot) {
	t.Helper()
	for _, column := range columns {
		if got, want := stack.Weigh(v.boxes, v.l, column), v.wantWeigh(column); got != want {
			t.Error("weigh", v, column, got, want)
		}
		if got, want := stack.Faults(v.s, v.boxes, v.l, column), v.wantFaults(column); !slices.Equal(got, want) {
			t.Error("faults", v, column, got, want)
		}
	}
	for _, x := range slots {
		if got, want := stack.Below(v.boxes, v.l, x), v.wantBelow(x); got != want {
			t.Error("below", v, x, got, want)
		}
		if got, want := stack.Room(v.s, v.boxes, v.l, x), v.wantRoom(x); got != want {
			t.Error("room", v, x, got, want)
		}
	}
}

func TestKinds(t *testing.T) {
	if l := [4]uint8{stack.KindFore, stack.KindAft, stack.KindAll, stack.KindTop}; l != [4]uint8{1, 2, 3, 4} {
		t.Error(l)
	}
}

// P10.1

func TestWeighInTheExample(t *testing.T) {
	v := example()
	for _, column := range append([]int{-1, 0, 1, 2, 3, 4, 5}, extremes...) {
		var want stack.Kilos
		if column == 2 {
			want = stack.Kilos{Fore: 15000, Aft: 9000, All: 50000}
		}
		if got := v.weigh(t, column); got != want {
			t.Error(column, got)
		}
	}
	if got := stack.Weigh(nil, v.l, 2); got != (stack.Kilos{}) {
		t.Error(got, "without boxes")
	}
	if got := stack.Weigh(v.boxes, nil, 2); got != (stack.Kilos{}) {
		t.Error(got, "without a state")
	}
}

func TestBelowInTheExample(t *testing.T) {
	v := example()
	for x, want := range map[api.Slot]int{
		in(2, 1, 0): 24000, in(2, 1, 1): 15000, in(2, 1, 2): 9000, in(2, 1, 3): 0,
		in(2, 2, 0): 26000, in(2, 2, 1): 26000, in(2, 2, 2): 26000, in(2, 2, 255): 26000,
		in(2, 0, 0): 0, in(2, 3, 0): 0, in(2, -1, 0): 0, in(3, 1, 0): 0, in(0, 1, 0): 0, in(-2, 1, 0): 0,
	} {
		if got := v.below(t, x); got != want {
			t.Error(x, got)
		}
	}
	if got := stack.Below(nil, v.l, in(2, 1, 0)); got != 0 {
		t.Error(got, "without boxes")
	}
	if got := stack.Below(v.boxes, nil, in(2, 1, 0)); got != 0 {
		t.Error(got, "without a state")
	}
}

// odd is a state that cannot be right: boxes that are nowhere, or in several slots, or have the ID of another one, columns and tiers that no ship has, and halves that are none.
func odd() vessel {
	return vessel{
		s: api.Ship{Columns: []api.Column{{Deck: true, Kilos20: 99, Kilos40: 999}, {Kilos20: -5, Kilos40: 7}, {Deck: true, Tiers: -1, Kilos20: -1, Kilos40: -1}}, Limits: api.Limits{Tolerance: 3}},
		boxes: []api.Box{
			{ID: 7, Kilos: 10}, {ID: 8, Size: 20, Kilos: 200}, {ID: 7, Kilos: 4000}, {ID: 9, Size: 40, Kilos: -30}, {ID: -1, Kilos: 5}, {ID: -1, Kilos: 6}, {ID: 8},
			{ID: math.MinInt, Kilos: 1}, {ID: math.MaxInt, Kilos: 2}, {ID: 0, Kilos: 60000}, {Kilos: 7},
		},
		l: []api.Stowed{
			at(9, 0, -2, 1), at(7, 0, -1, 1), at(8, 0, 0, 3), at(7, 0, 1, 1), at(5, 0, 1, 0), at(8, 0, 2, 0), at(7, 0, 1, 2), at(7, 0, 1, 1), at(9, 0, 5, 200), at(7, 0, 6, 200), at(8, 0, 6, 56),
			at(0, 1, 0, 1), at(9, 1, 1, 1), at(9, 1, 1, 2), at(-1, 1, 1, 3), at(-1, 3, 0, 2), at(8, -1, 0, 0),
			at(8, 2, math.MaxInt, 0), at(7, 2, math.MinInt, 0), at(math.MinInt, 2, math.MaxInt-1, 1), at(math.MaxInt, 2, math.MinInt+1, 2), at(5, math.MinInt, 0, 0), at(math.MaxInt, math.MaxInt, 1, 0),
		},
	}
}

func TestWeighInAnyState(t *testing.T) {
	v := odd()
	for column, want := range map[int]stack.Kilos{
		0: {Fore: 0, Aft: 10, All: 590}, 1: {Fore: 59970, Aft: -30, All: 59945}, 2: {Fore: 1, Aft: 2, All: 213}, 3: {Aft: 5, All: 5}, -1: {All: 200}, 4: {}, math.MinInt: {}, math.MaxInt: {All: 2},
	} {
		if got := v.weigh(t, column); got != want {
			t.Error(column, got)
		}
	}
}

func TestBelowInAnyState(t *testing.T) {
	v := odd()
	for x, want := range map[api.Slot]int{
		in(0, -1, 1): -30, in(0, -1, 0): -30, in(0, -1, 2): 0, in(0, 0, 1): 10, in(0, 0, 3): 0, in(0, 1, 1): 0, in(0, 1, 0): 200, in(0, 1, 3): 200,
		in(0, 2, 0): 30, in(0, 2, 1): 20, in(0, 2, 2): 10, in(0, 2, 3): 0, in(0, 3, 9): 200, in(0, 4, 0): 0, in(0, 6, 200): -30, in(0, 6, 72): 0, in(0, 6, 56): 0, in(0, 7, 200): 10, in(0, 7, 56): 200, in(0, 7, 0): 210, in(0, 7, 144): 0,
		in(1, 1, 2): 0, in(1, 2, 0): -55, in(3, 1, 2): 5, in(-1, 1, 2): 200, in(math.MaxInt, 2, 2): 2,
	} {
		if got := v.below(t, x); got != want {
			t.Error(x, got)
		}
	}
}

// TestBelowTheLeastTier has boxes in the greatest tier, which is not below the least one.
func TestBelowTheLeastTier(t *testing.T) {
	v := odd()
	for x, want := range map[api.Slot]int{
		in(2, math.MinInt, 0): 0, in(2, math.MinInt, 1): 0, in(2, math.MinInt+1, 2): 10, in(2, math.MinInt+2, 0): 2, in(2, math.MinInt+2, 1): 0, in(2, math.MaxInt, 0): 1, in(2, math.MaxInt, 2): 0, in(2, math.MaxInt-1, 0): 0,
	} {
		if got := v.below(t, x); got != want {
			t.Error(x, got)
		}
	}
}

// TestKilosInAnyState compares all functions with references, for states and ships of any kind.
func TestKilosInAnyState(t *testing.T) {
	r := rand.New(rand.NewSource(1))
	numbers := append([]int{-1, 0, 1, 2, 3, 0, 1, 2, 0, 1, 2}, extremes...)
	any := func() int { return numbers[r.Intn(len(numbers))] }
	kilos := func() int { return []int{r.Intn(7) - 1, r.Intn(7) - 1, most - r.Intn(2), -most}[r.Intn(4)] }
	for range 5000 {
		var v vessel
		for range r.Intn(4) {
			v.s.Columns = append(v.s.Columns, api.Column{Bay: any(), Deck: r.Intn(3) > 0, Tiers: any(), Kilos20: kilos(), Kilos40: kilos()})
		}
		v.s.Limits.Tolerance = kilos()
		for range r.Intn(8) {
			v.boxes = append(v.boxes, api.Box{ID: any(), Size: uint8(r.Intn(256)), Kilos: kilos()})
		}
		for range r.Intn(16) {
			v.l = append(v.l, at(any(), any()%3, any(), uint8(r.Intn(4))))
		}
		var slots []api.Slot
		for range 6 {
			slots = append(slots, in(any()%4, any(), uint8(r.Intn(4))))
		}
		v.compare(t, append([]int{-1, 0, 1, 2, 3}, any()), slots)
	}
}

// P10.2

func TestFaultsInTheExample(t *testing.T) {
	v := example()
	for _, column := range append([]int{-1, 0, 1, 2, 3, 4, 5}, extremes...) {
		if got := v.faults(t, column); len(got) > 0 {
			t.Error(column, got)
		}
	}
	if got, e := v.check(t); len(got) > 0 || e != api.OK {
		t.Error(got, e)
	}
	heavier := example()
	heavier.boxes[2].Kilos = 26001
	other := example()
	other.l = []api.Stowed{at(1, 2, 0, 1), at(2, 2, 0, 2), at(4, 2, 1, 2)}
	for i, c := range []struct {
		v    vessel
		want []stack.Fault
	}{
		{heavier, []stack.Fault{{Column: 2, Kind: stack.KindAll}, {Column: 2, Kind: stack.KindTop, Box: 3}}},
		{other, []stack.Fault{{Column: 2, Kind: stack.KindTop, Box: 4}}},
	} {
		if got := c.v.faults(t, 2); !slices.Equal(got, c.want) {
			t.Error(i, got)
		}
		if got, e := c.v.check(t); !slices.Equal(got, c.want) || e != api.OK {
			t.Error(i, got, e)
		}
	}
}

// sizeOf returns the size of the boxes that a slot is for.
func sizeOf(x api.Slot) uint8 {
	if x.Half == 0 {
		return 40
	}
	return 20
}

// only returns the example with other boxes, and no limit that any of them meets.
func only(kilos map[int]int, l ...api.Stowed) vessel {
	v := example()
	v.boxes, v.l = nil, l
	for _, x := range l {
		v.boxes = append(v.boxes, api.Box{ID: x.Box, Size: sizeOf(x.Slot), Kilos: kilos[x.Box]})
	}
	for i := range v.s.Columns {
		v.s.Columns[i].Kilos20, v.s.Columns[i].Kilos40 = api.MaxKilos, api.MaxKilos
	}
	return v
}

// TestEachWeightAtItsLimit has columns whose parts weigh as much as they may, and one more kilo, on deck and in the hold.
func TestEachWeightAtItsLimit(t *testing.T) {
	for _, column := range []int{1, 3} {
		v := only(map[int]int{1: 100, 2: 70, 3: 20, 4: 5, 5: 60}, at(1, column, 0, 1), at(2, column, 0, 2), at(3, column, 1, 1), at(4, column, 1, 2))
		if column == 3 {
			v.boxes = append(v.boxes, api.Box{ID: 5, Size: 40, Kilos: 15})
			v.l = append(v.l, at(5, column, 2, 0))
		}
		sum := v.wantWeigh(column)
		if sum.Fore != 120 || sum.Aft != 75 || sum.All != 195 && sum.All != 210 {
			t.Fatal(sum)
		}
		for _, c := range []struct {
			kilos20, kilos40 int
			want             []uint8
		}{
			{120, sum.All, nil}, {119, sum.All, []uint8{1}}, {120, sum.All - 1, []uint8{3}}, {119, sum.All - 1, []uint8{1, 3}},
			{75, sum.All, []uint8{1}}, {74, sum.All, []uint8{1, 2}}, {74, 0, []uint8{1, 2, 3}}, {0, 0, []uint8{1, 2, 3}}, {0, sum.All, []uint8{1, 2}},
		} {
			v.s.Columns[column].Kilos20, v.s.Columns[column].Kilos40 = c.kilos20, c.kilos40
			var want []stack.Fault
			for _, kind := range c.want {
				want = append(want, stack.Fault{Column: column, Kind: kind})
			}
			if got, e := v.check(t); !slices.Equal(got, want) || e != api.OK {
				t.Error(c, got, e)
			}
			if got := v.faults(t, column); !slices.Equal(got, want) {
				t.Error(c, got)
			}
		}
	}
}

// TestEachHalfAlone has a half that is too heavy while the other one is empty.
func TestEachHalfAlone(t *testing.T) {
	for half := uint8(1); half <= 2; half++ {
		v := only(map[int]int{1: 10}, at(1, 0, 0, half))
		v.s.Columns[0].Kilos20 = 9
		if got, e := v.check(t); !slices.Equal(got, []stack.Fault{{Kind: half}}) || e != api.OK {
			t.Error(half, got, e)
		}
	}
	// Boxes of 40 feet are in no half.
	v := only(map[int]int{1: 10}, at(1, 0, 0, 0))
	v.s.Columns[0].Kilos20 = 0
	if got, e := v.check(t); len(got) > 0 || e != api.OK {
		t.Error(got, e)
	}
}

// TestTops has boxes upon others: each box is as heavy as it may be, or heavier by one.
func TestTops(t *testing.T) {
	below := [][]api.Stowed{
		{at(1, 3, 0, 0)},
		{at(1, 3, 0, 1), at(2, 3, 0, 2)},
		{at(1, 3, 0, 1)},
		{at(2, 3, 0, 2)},
	}
	for i, c := range []struct {
		below int
		half  uint8
		may   int // without the tolerance
	}{{0, 0, 500}, {1, 0, 800}, {1, 1, 500}, {1, 2, 300}, {2, 1, 500}, {3, 2, 300}} {
		for _, tolerance := range []int{0, 1, 50, -1, -200, 400000000, -most} {
			for _, over := range []int{-1, 0, 1} {
				kilos := c.may + tolerance + over
				v := only(map[int]int{1: 500, 2: 300, 3: kilos}, append(slices.Clone(below[c.below]), at(3, 3, 1, c.half))...)
				v.s.Limits.Tolerance = tolerance
				var want []stack.Fault
				if over > 0 {
					want = []stack.Fault{{Column: 3, Kind: 4, Box: 3}}
				}
				if got, e := v.check(t); !slices.Equal(got, want) || e != api.OK {
					t.Error(i, tolerance, over, got, e, want)
				}
			}
		}
	}
}

// TestTopsAreInTheOrderOfTheState has several boxes that are too heavy; those in the lowest tier are not.
func TestTopsAreInTheOrderOfTheState(t *testing.T) {
	kilos := map[int]int{1: 9000, 2: 9000, 3: 1, 4: 2, 5: 1}
	v := only(kilos, at(1, 3, 2, 1), at(2, 3, 1, 2), at(3, 3, 1, 1), at(4, 3, 0, 2), at(5, 3, 0, 1))
	want := []stack.Fault{{Column: 3, Kind: 4, Box: 1}, {Column: 3, Kind: 4, Box: 2}}
	if got, e := v.check(t); !slices.Equal(got, want) || e != api.OK {
		t.Error(got, e)
	}
	v.s.Columns[3].Kilos20, v.s.Columns[3].Kilos40 = 9001, 18003
	want = append([]stack.Fault{{Column: 3, Kind: 1}, {Column: 3, Kind: 2}, {Column: 3, Kind: 3}}, want...)
	if got, e := v.check(t); !slices.Equal(got, want) || e != api.OK {
		t.Error(got, e)
	}
	// In another order the state is not right, but it can be asked for.
	slices.Reverse(v.l)
	want[3], want[4] = want[4], want[3]
	if got := v.faults(t, 3); !slices.Equal(got, want) {
		t.Error(got)
	}
	if got, e := v.check(t); got != nil || e != api.ErrArg {
		t.Error(got, e)
	}
}

// TestTopsInAnyState tries boxes that are not found, twice in the state, and in tiers and halves that there are not.
func TestTopsInAnyState(t *testing.T) {
	v := odd()
	for column, want := range map[int][]stack.Fault{
		0: {{Kind: 4, Box: 7}, {Kind: 4, Box: 8}, {Kind: 4, Box: 7}, {Kind: 4, Box: 7}, {Kind: 4, Box: 7}, {Kind: 4, Box: 8}},
		1: {{Column: 1, Kind: 1}, {Column: 1, Kind: 3}},
		2: {{Column: 2, Kind: 1}, {Column: 2, Kind: 2}, {Column: 2, Kind: 3}, {Column: 2, Kind: 4, Box: 8}},
		3: nil, -1: nil, math.MinInt: nil, math.MaxInt: nil, 1 << 32: nil,
	} {
		if got := v.faults(t, column); !slices.Equal(got, want) {
			t.Error(column, got)
		}
	}
	v.s.Limits.Tolerance = -1000
	if got := v.faults(t, 0); !slices.Equal(got, []stack.Fault{{Kind: 4, Box: 7}, {Kind: 4, Box: 5}, {Kind: 4, Box: 8}, {Kind: 4, Box: 7}, {Kind: 4, Box: 7}, {Kind: 4, Box: 9}, {Kind: 4, Box: 7}, {Kind: 4, Box: 8}}) {
		t.Error(got)
	}
}

func TestFaultsOfNothing(t *testing.T) {
	v := example()
	v.l, v.boxes = nil, nil
	for i := range v.s.Columns {
		v.s.Columns[i].Kilos20, v.s.Columns[i].Kilos40 = 0, 0
	}
	if got, e := v.check(t); len(got) > 0 || e != api.OK {
		t.Error(got, e)
	}
	// A column that may carry less than nothing is not right, but it can be asked for.
	v.s.Columns[1].Kilos20, v.s.Columns[1].Kilos40 = -1, -1
	if got := v.faults(t, 1); !slices.Equal(got, []stack.Fault{{Column: 1, Kind: 1}, {Column: 1, Kind: 2}, {Column: 1, Kind: 3}}) {
		t.Error(got)
	}
	if got, e := v.check(t); got != nil || e != api.ErrArg {
		t.Error(got, e)
	}
	if got := stack.Faults(api.Ship{}, nil, nil, 0); len(got) > 0 {
		t.Error(got)
	}
}

// TestCheckIsInTheOrderOfColumns has faults in several columns, of boxes in another order.
func TestCheckIsInTheOrderOfColumns(t *testing.T) {
	v := only(map[int]int{1: 9, 2: 5000, 3: 9, 4: 9, 5: 6000, 6: 1}, at(1, 4, 0, 0), at(2, 4, 1, 0), at(3, 0, 0, 0), at(4, 2, 0, 0), at(5, 2, 1, 0), at(6, 3, 0, 0))
	v.s.Columns[0].Kilos40, v.s.Columns[2].Kilos40, v.s.Columns[4].Kilos40 = 8, 6008, 5008
	want := []stack.Fault{{Kind: 3}, {Column: 2, Kind: 3}, {Column: 2, Kind: 4, Box: 5}, {Column: 4, Kind: 3}, {Column: 4, Kind: 4, Box: 2}}
	if got, e := v.check(t); !slices.Equal(got, want) || e != api.OK {
		t.Error(got, e)
	}
}

func TestCheckNeedsARightState(t *testing.T) {
	for i, spoil := range []func(*vessel){
		func(v *vessel) { v.s = api.Ship{} },
		func(v *vessel) { v.s.Columns[3].Row = 0 },
		func(v *vessel) { v.s.Columns[3].Kilos20 = -1 },
		func(v *vessel) { v.s.Columns[3].Kilos40 = api.MaxKilos + 1 },
		func(v *vessel) { v.s.Covers[0].Rows = []int{1, 1} },
		func(v *vessel) { v.boxes = nil },
		func(v *vessel) { v.boxes[0].Size = 45 },
		func(v *vessel) { v.boxes[2].Size = 20 },
		func(v *vessel) { v.boxes[2].ID = 5 },
		func(v *vessel) { v.l[0], v.l[1] = v.l[1], v.l[0] },
		func(v *vessel) { v.l[1].Box = 1 },
		func(v *vessel) { v.l[2].Slot.Column = 5 },
		func(v *vessel) { v.l[2].Slot.Tier = 0 },
		func(v *vessel) { v.l[2].Slot.Tier = 2 },
		func(v *vessel) { v.l[1].Slot.Half = 1 },
		func(v *vessel) { v.l[1].Slot.Half = 3 },
		func(v *vessel) { v.s.Columns[2].Height = 5181 },
	} {
		for _, kilos := range []int{26000, 26001} { // without and with faults
			v := example().copied()
			v.boxes[2].Kilos = kilos
			spoil(&v)
			if got, e := v.check(t); got != nil || e != api.ErrArg {
				t.Error(i, got, e)
			}
		}
	}
}

// P10.3

func TestRoomInTheExample(t *testing.T) {
	v := example()
	v.l = v.l[:2]
	for x, want := range map[api.Slot]int{
		in(2, 1, 2): 11000, in(2, 1, 1): 15000, in(2, 1, 0): 26000, in(2, 2, 0): 2000, in(2, 0, 0): 26000, in(2, 0, 1): 15000, in(2, 0, 2): 21000,
		in(3, 0, 0): 50000, in(3, 0, 1): 30000, in(3, 0, 2): 30000, in(3, 1, 0): 2000, in(0, 1, 0): 50000, in(0, 1, 1): 30000,
		in(5, 0, 0): 0, in(-1, 0, 0): 0, in(math.MaxInt, 0, 1): 0, in(math.MinInt, 0, 0): 0, in(1<<32, 0, 0): 0,
	} {
		if got := v.room(t, x); got != want {
			t.Error(x, got)
		}
	}
	v = example()
	if got := v.room(t, in(2, 2, 0)); got != 0 {
		t.Error(got)
	}
}

// TestRoomIsTheLeast gives each limit in turn the least value, which is above 0, 0, or below 0.
func TestRoomIsTheLeast(t *testing.T) {
	kilos := map[int]int{1: 500, 2: 300, 3: 90}
	l := []api.Stowed{at(1, 3, 0, 1), at(2, 3, 0, 2), at(3, 3, 1, 0)}
	for _, room := range []int{1, 40, 0, -1, -5000} {
		want := max(room, 0)
		for i, c := range []struct {
			x                           api.Slot
			kilos20, kilos40, tolerance int
			want                        int
		}{
			{in(3, 2, 0), 0, 890 + room, 5000, want},
			{in(3, 2, 1), 9000, 890 + room, 5000, want},
			{in(3, 2, 2), 9000, 890 + room, 5000, want},
			{in(3, 2, 1), 500 + room, 9000, 5000, want},
			{in(3, 2, 2), 300 + room, 9000, 5000, want},
			{in(3, 2, 0), 0, 9000, room - 90, want},
			{in(3, 2, 1), 9000, 9000, room - 90, want},
			{in(3, 2, 2), 9000, 9000, room - 90, want},
			{in(3, 1, 0), 0, 9000, room - 800, want},
			{in(3, 1, 1), 9000, 9000, room - 500, want},
			{in(3, 1, 2), 9000, 9000, room - 300, want},
			{in(3, 3, 0), 0, 9000, room, want},
			// What does not count there: the other half, halves for the whole, what is below the lowest tier.
			{in(3, 2, 1), 700, 9000, 5000, 200},
			{in(3, 2, 0), room, 1900, 5000, 1010},
			{in(3, 2, 7), room, 1900, 5000, 1010},
			{in(3, 0, 0), room, 1900, room, 1010},
			{in(3, 0, 1), 507, 1900, room, 7},
			{in(3, -1, 1), 507, 1900, room, 7},
		} {
			v := only(kilos, l...)
			v.s.Columns[3].Kilos20, v.s.Columns[3].Kilos40, v.s.Limits.Tolerance = c.kilos20, c.kilos40, c.tolerance
			if got := v.room(t, c.x); got != c.want {
				t.Error(room, i, got, c.want)
			}
			// In the hold, what is below does not count.
			v.s.Columns[3].Deck = false
			v.s.Limits.Tolerance = -most
			if got := v.room(t, c.x); got != v.wantRoom(c.x) || c.tolerance == 5000 && got != c.want {
				t.Error("in the hold", room, i, got, c.want)
			}
		}
	}
}

// TestRoomOfTheFarthest has the greatest and the least numbers that may be asked for.
func TestRoomOfTheFarthest(t *testing.T) {
	var v vessel
	for i := range 2000 {
		v.boxes = append(v.boxes, api.Box{ID: i, Kilos: most})
		v.l = append(v.l, at(i, 0, i%2, 0))
	}
	v.s.Columns = []api.Column{{Deck: true, Kilos40: most}, {Kilos40: most}}
	v.s.Limits.Tolerance = most
	for i := range v.boxes {
		v.boxes[i].Kilos = -most
	}
	if got := v.weigh(t, 0); got != (stack.Kilos{All: -2000 * most}) {
		t.Error(got)
	}
	if got := v.room(t, in(0, 3, 0)); got != most {
		t.Error(got)
	}
	if got := v.room(t, in(0, 0, 0)); got != 2001*most {
		t.Error(got)
	}
	for i := range v.boxes {
		v.boxes[i].Kilos = most
	}
	if got := v.below(t, in(0, 1, 1)); got != 1000*most {
		t.Error(got)
	}
	v.s.Columns[0].Kilos40 = -most
	if got := v.room(t, in(0, 1, 0)); got != 0 {
		t.Error(got)
	}
	if got := v.faults(t, 0); !slices.Equal(got, []stack.Fault{{Kind: 3}}) {
		t.Error(got)
	}
}

// P10.4

// small is a ship with a column on deck, one in the hold, and four boxes.
func small() vessel {
	return vessel{
		s: api.Ship{
			Columns: []api.Column{{Deck: true, Tiers: 3, Kilos20: 18, Kilos40: 27}, {Tiers: 2, Kilos20: 8, Kilos40: 20}},
			Limits:  api.Limits{Tolerance: 2},
		},
		boxes: []api.Box{{ID: 1, Size: 40, Kilos: 11}, {ID: 2, Size: 20, Kilos: 7}, {ID: 3, Size: 20, Kilos: 9}, {ID: 4, Size: 20, Kilos: 4}},
	}
}

// slots returns the slots of a ship, of all halves.
func (v vessel) slots() []api.Slot {
	var l []api.Slot
	for i, c := range v.s.Columns {
		for tier := range c.Tiers {
			for half := range uint8(3) {
				l = append(l, in(i, tier, half))
			}
		}
	}
	return l
}

// states calls f for each state of a ship with its boxes, whether it is right or not.
func (v vessel) states(f func(vessel)) {
	slots := v.slots()
	var next func(boxes []api.Box, l []api.Stowed)
	next = func(boxes []api.Box, l []api.Stowed) {
		if len(boxes) == 0 {
			f(vessel{v.s, v.boxes, l})
			return
		}
		next(boxes[1:], l)
		for _, x := range slots {
			next(boxes[1:], append(slices.Clip(l), api.Stowed{Box: boxes[0].ID, Slot: x}))
		}
	}
	next(v.boxes, nil)
}

// random returns a vessel whose state is right, with boxes of each size.
func random(r *rand.Rand) vessel {
	v := example()
	v.s.Limits.Tolerance = r.Intn(6)
	for i := range v.s.Columns {
		v.s.Columns[i].Kilos20, v.s.Columns[i].Kilos40 = 10+r.Intn(30), 20+r.Intn(70)
	}
	v.boxes, v.l = nil, nil
	for i := range r.Intn(40) {
		v.boxes = append(v.boxes, api.Box{ID: 3 * i, Size: uint8(20 + 20*r.Intn(2)), Kilos: r.Intn(20)})
	}
	slots := v.slots()
	for _, b := range v.boxes {
		for range 5 {
			if l, e := put(v, api.Stowed{Box: b.ID, Slot: slots[r.Intn(len(slots))]}); e == api.OK {
				v.l = l
				break
			}
		}
	}
	return v
}

// put puts a box into a slot, whether covers are open or not.
func put(v vessel, x api.Stowed) ([]api.Stowed, api.Errno) {
	v.s.Covers = nil
	return stow.Put(v.s, v.boxes, v.l, nil, x)
}

// take takes a box out of a slot, whether covers are open or not.
func take(v vessel, id int) ([]api.Stowed, api.Errno) {
	v.s.Covers = nil
	return stow.Take(v.s, v.boxes, v.l, nil, id)
}

// checked compares Check, of a state that is right, with what is expected.
func (v vessel) checked(t *testing.T) {
	t.Helper()
	var want []stack.Fault
	for i := range v.s.Columns {
		want = append(want, v.wantFaults(i)...)
	}
	if got, e := stack.Check(v.s, v.boxes, v.l); !slices.Equal(got, want) || e != api.OK {
		t.Error(v, got, e, want)
	}
}

// columns returns the columns of a ship.
func (v vessel) columns() []int {
	var l []int
	for i := range v.s.Columns {
		l = append(l, i)
	}
	return l
}

// sums tests that the columns weigh as much as the boxes.
func (v vessel) sums(t *testing.T) {
	t.Helper()
	sum, kilos := 0, v.first()
	for i := range v.s.Columns {
		sum += stack.Weigh(v.boxes, v.l, i).All
	}
	for _, x := range v.l {
		sum -= kilos[x.Box]
	}
	if sum != 0 {
		t.Error(v, sum)
	}
}

// tops tests that no KindTop is in the hold, and that there is none if all boxes weigh the same.
func (v vessel) tops(t *testing.T) {
	t.Helper()
	isTop := func(f stack.Fault) bool { return f.Kind == stack.KindTop }
	got, _ := stack.Check(v.s, v.boxes, v.l)
	if slices.ContainsFunc(got, func(f stack.Fault) bool { return isTop(f) && !v.s.Columns[f.Column].Deck }) {
		t.Error(v, got)
	}
	same := v.copied()
	for i := range same.boxes {
		same.boxes[i].Kilos = 13
	}
	same.s.Limits.Tolerance = 0
	if got, _ := stack.Check(same.s, same.boxes, same.l); slices.ContainsFunc(got, isTop) {
		t.Error(same, got)
	}
}

// fewer tests that without a box upon which none stands there are no other faults.
func (v vessel) fewer(t *testing.T) {
	t.Helper()
	was, _ := stack.Check(v.s, v.boxes, v.l)
	for _, x := range v.l {
		less := v
		var e api.Errno
		if less.l, e = take(v, x.Box); e != api.OK {
			continue
		}
		now, _ := stack.Check(less.s, less.boxes, less.l)
		if slices.ContainsFunc(now, func(f stack.Fault) bool { return !slices.Contains(was, f) }) {
			t.Error(v, x, was, now)
		}
	}
}

// fills puts a box of as many kilos as there is room for, and of one more, on top of what has no fault; it returns how often.
func (v vessel) fills(t *testing.T) int {
	t.Helper()
	if was, _ := stack.Check(v.s, v.boxes, v.l); len(was) > 0 {
		return 0
	}
	n := 0
	for _, x := range v.slots() {
		more := v.copied()
		more.boxes = append(more.boxes, api.Box{ID: 999, Size: sizeOf(x), Kilos: stack.Room(v.s, v.boxes, v.l, x)})
		var e api.Errno
		if more.l, e = put(more, api.Stowed{Box: 999, Slot: x}); e != api.OK {
			continue
		}
		n++
		last := &more.boxes[len(more.boxes)-1]
		if got, e := stack.Check(more.s, more.boxes, more.l); len(got) > 0 || e != api.OK {
			t.Error(more, got, e)
		}
		last.Kilos++
		if got, e := stack.Check(more.s, more.boxes, more.l); len(got) == 0 || e != api.OK {
			t.Error(more, got, e)
		}
	}
	return n
}

func TestEachSmallState(t *testing.T) {
	right, filled := 0, 0
	small().states(func(v vessel) {
		if !stow.Right(v.s, v.boxes, v.l) {
			if got, e := stack.Check(v.s, v.boxes, v.l); got != nil || e != api.ErrArg {
				t.Error(v, got, e)
			}
			return
		}
		right++
		v.checked(t)
		v.compare(t, v.columns(), v.slots())
		v.sums(t)
		v.tops(t)
		v.fewer(t)
		filled += v.fills(t)
	})
	if right < 300 || filled < 300 {
		t.Error(right, "are right;", filled, "were filled")
	}
}

func TestRandomStates(t *testing.T) {
	r := rand.New(rand.NewSource(2))
	kinds := map[uint8]int{}
	filled := 0
	for range 2000 {
		v := random(r)
		v.checked(t)
		v.compare(t, v.columns(), v.slots())
		v.sums(t)
		v.tops(t)
		v.fewer(t)
		filled += v.fills(t)
		got, _ := v.check(t)
		for _, f := range got {
			kinds[f.Kind]++
		}
	}
	for kind := uint8(1); kind <= 4; kind++ {
		if kinds[kind] < 100 {
			t.Error(kinds)
		}
	}
	if filled < 1000 {
		t.Error(filled)
	}
}

// TestLargest has 200 columns with 2000 boxes in no order, of 40 and of 20 feet.
func TestLargest(t *testing.T) {
	for _, size := range []uint8{20, 40} {
		var v vessel
		for i := range 200 {
			v.s.Columns = append(v.s.Columns, api.Column{Bay: i / 5, Row: i % 5, Deck: i%3 > 0, Tiers: 10, Kilos20: 100000 - 50*i, Kilos40: 200000 - 50*i})
		}
		v.s.Limits.Tolerance = 3000
		for i := range 2000 {
			v.boxes = append(v.boxes, api.Box{ID: i * 1237 % 2000, Size: size, Kilos: 17000 + i*3571%6000})
			if size == 40 {
				v.l = append(v.l, at(i, i%200, i/200, 0))
			} else {
				v.l = append(v.l, at(i, i%200, i/400, uint8(1+i/200%2)))
			}
		}
		v.sums(t)
		v.checked(t)
		v.compare(t, []int{0, 1, 117, 199}, v.slots()[3503:3593])
		if got, _ := v.check(t); len(got) < 100 {
			t.Error(size, len(got))
		}
	}
}
