package stow_test

import (
	"math"
	"math/rand"
	"reflect"
	"slices"
	"testing"

	"twistlock/api"
	"twistlock/ship"
	"twistlock/stow"
)

// harbour is what the functions of the package are asked about.
type harbour struct {
	s     api.Ship
	boxes []api.Box
	l     []api.Stowed
	open  []int
}

// at returns a box in a slot.
func at(box, column, tier int, half uint8) api.Stowed {
	return api.Stowed{Box: box, Slot: api.Slot{Column: column, Tier: tier, Half: half}}
}

// example is the ship of the examples, with their boxes and their state.
func example() harbour {
	return harbour{
		s: api.Ship{
			Columns: []api.Column{
				{Tiers: 2},
				{Row: 1, Tiers: 2},
				{Deck: true, Tiers: 3},
				{Row: 1, Deck: true, Tiers: 3},
				{Bay: 1, Row: 1, Deck: true, Tiers: 4},
			},
			Covers: []api.Cover{{Rows: []int{0, 1}}},
		},
		boxes: []api.Box{{ID: 1, Size: 40}, {ID: 2, Size: 40}, {ID: 3, Size: 40}, {ID: 4, Size: 40}, {ID: 5, Size: 40}, {ID: 6, Size: 20}, {ID: 7, Size: 20}},
		l:     []api.Stowed{at(1, 0, 0, 0), at(2, 0, 1, 0), at(3, 2, 1, 0), at(6, 2, 0, 1), at(7, 2, 0, 2)},
	}
}

// mixed is a ship with two covers, a hold under none, a column on deck that is upon none, and limits of height; boxes of each size, one of which has an ID that another one has too; and nothing on board.
func mixed() harbour {
	return harbour{
		s: api.Ship{
			Columns: []api.Column{
				{Bay: 4, Row: 2, Tiers: 3, Plugs: []int{0, 2}},
				{Bay: 4, Row: 3, Tiers: 3, Height: 7773},
				{Bay: 4, Row: 2, Deck: true, Tiers: 3, Height: 7772},
				{Bay: 4, Row: 3, Deck: true, Tiers: 2, Height: 5487},
				{Bay: 4, Row: 7, Tiers: 2, Height: 1},
				{Bay: 4, Row: 7, Deck: true, Tiers: 4},
				{Bay: 9, Row: 2, Tiers: 2, Height: 5182},
				{Bay: 9, Row: 2, Deck: true, Tiers: 2, Height: 2895},
				{Bay: 9, Row: 3, Tiers: 1},
			},
			Covers: []api.Cover{{Bay: 9, Rows: []int{1, 2}}, {Bay: 7, Rows: []int{7}}, {Bay: 4, Rows: []int{2, 3, 30}}},
		},
		boxes: []api.Box{
			{ID: 12, Size: 20, High: true}, {ID: 3, Size: 40}, {ID: 4, Size: 40}, {ID: 5, Size: 40, High: true}, {ID: 6, Size: 45}, {ID: -7, Size: 40},
			{ID: 6, Size: 40}, {ID: 3, Size: 20, High: true}, {ID: 8, Size: 20}, {ID: 9, Size: 20}, {ID: 10, Size: 20}, {ID: 11, Size: 20},
			{ID: 13}, {ID: 14, Size: 20}, {ID: 15, Size: 20}, {ID: 16, Size: 40}, {ID: 0, Size: 20}, {ID: math.MaxInt, Size: 40}, {ID: math.MinInt, Size: 20},
		},
	}
}

// extremes are numbers far away, some of which are near in 32 bits.
var extremes = []int{math.MinInt, math.MinInt + 1, -1 << 32, -1<<32 + 1, 1 << 32, 1<<32 + 1, math.MaxInt - 1, math.MaxInt}

// spare returns a list with room for more elements.
func spare[T any](l []T) []T {
	return append(make([]T, 0, len(l)+3), l...)
}

// copied returns what shares no memory with h; each of its lists has room for more elements, which are zero.
func (h harbour) copied() harbour {
	s := h.s
	s.Columns, s.Covers = spare(s.Columns), spare(s.Covers)
	for i := range s.Columns {
		s.Columns[i].Plugs = spare(s.Columns[i].Plugs)
	}
	for i := range s.Covers {
		s.Covers[i].Rows = spare(s.Covers[i].Rows)
	}
	return harbour{s, spare(h.boxes), spare(h.l), spare(h.open)}
}

// whole returns h with all that is spare.
func (h harbour) whole() harbour {
	s := h.s
	s.Columns, s.Covers = slices.Clone(s.Columns[:cap(s.Columns)]), slices.Clone(s.Covers[:cap(s.Covers)])
	for i, c := range s.Columns {
		s.Columns[i].Plugs = c.Plugs[:cap(c.Plugs)]
	}
	for i, c := range s.Covers {
		s.Covers[i].Rows = c.Rows[:cap(c.Rows)]
	}
	return harbour{s, h.boxes[:cap(h.boxes)], h.l[:cap(h.l)], h.open[:cap(h.open)]}
}

// asked lets f ask about a copy of h; nothing of it may change, not even when all memory of the result does.
func asked[T comparable](t *testing.T, h harbour, f func(harbour) ([]T, api.Errno)) ([]T, api.Errno) {
	t.Helper()
	c := h.copied()
	got, e := f(c)
	if e != api.OK && len(got) > 0 {
		t.Error("a result with an error", got, e)
	}
	kept := slices.Clone(got)
	var zero T
	for i := range got[:cap(got)] {
		got[:cap(got)][i] = zero
	}
	if !reflect.DeepEqual(c.whole(), h.copied().whole()) {
		t.Error("an argument is not as it was", c)
	}
	return kept, e
}

func (h harbour) right(t *testing.T) bool {
	t.Helper()
	var is bool
	asked(t, h, func(h harbour) ([]int, api.Errno) {
		is = stow.Right(h.s, h.boxes, h.l)
		return nil, api.OK
	})
	return is
}

func (h harbour) height(t *testing.T, column int, half uint8) int {
	t.Helper()
	var n int
	asked(t, h, func(h harbour) ([]int, api.Errno) {
		n = stow.Height(h.boxes, h.l, column, half)
		return nil, api.OK
	})
	return n
}

func (h harbour) above(t *testing.T, id int) ([]int, api.Errno) {
	t.Helper()
	return asked(t, h, func(h harbour) ([]int, api.Errno) { return stow.Above(h.l, id) })
}

func (h harbour) reach(t *testing.T, ids ...int) ([]int, api.Errno) {
	t.Helper()
	got, e := asked(t, h, func(h harbour) ([]int, api.Errno) {
		given := spare(ids)
		got, e := stow.Reach(h.s, h.boxes, h.l, given)
		if !slices.Equal(given[:cap(given)], spare(ids)[:cap(given)]) {
			t.Error("the boxes are not as they were", given)
		}
		return got, e
	})
	return got, e
}

// cell is a half of a tier of a column.
type cell struct {
	column, tier int
	half         uint8
}

// cellsOf returns the cells that a slot takes.
func cellsOf(x api.Slot) []cell {
	if x.Half == 0 {
		return []cell{{x.Column, x.Tier, 1}, {x.Column, x.Tier, 2}}
	}
	return []cell{{x.Column, x.Tier, x.Half}}
}

// boxOf returns the first box with an ID, or nil.
func boxOf(boxes []api.Box, id int) *api.Box {
	for i := range boxes {
		if boxes[i].ID == id {
			return &boxes[i]
		}
	}
	return nil
}

// tallness returns the height of a box.
func tallness(b *api.Box) int {
	switch {
	case b == nil:
		return 0
	case b.High:
		return 2896
	}
	return 2591
}

// hasSlot reports whether a ship has a slot for a box.
func hasSlot(s api.Ship, x api.Slot, b *api.Box) bool {
	if b == nil || b.Size == 40 && x.Half != 0 || b.Size == 20 && x.Half != 1 && x.Half != 2 || b.Size != 20 && b.Size != 40 {
		return false
	}
	for i, c := range s.Columns {
		for tier := range c.Tiers {
			if x.Column == i && x.Tier == tier {
				return true
			}
		}
	}
	return false
}

// wantRight reports whether a state is right, by what is in each cell.
func (h harbour) wantRight() bool {
	in := map[cell]*api.Box{}
	heights := map[cell]int{}
	for i, x := range h.l {
		b := boxOf(h.boxes, x.Box)
		if !hasSlot(h.s, x.Slot, b) || i > 0 && h.l[i-1].Box >= x.Box {
			return false
		}
		for _, c := range cellsOf(x.Slot) {
			if in[c] != nil {
				return false
			}
			in[c] = b
			heights[cell{c.column, 0, c.half}] += tallness(b)
		}
	}
	for c, b := range in {
		below := in[cell{c.column, c.tier - 1, c.half}]
		if c.tier > 0 && (below == nil || b.Size == 20 && below.Size == 40) {
			return false
		}
	}
	for c, height := range heights {
		if limit := h.s.Columns[c.column].Height; limit > 0 && height > limit {
			return false
		}
	}
	return ship.Right(h.s)
}

// stands reports whether a slot is over another one.
func stands(a, b api.Slot) bool {
	for _, x := range cellsOf(a) {
		for _, y := range cellsOf(b) {
			if x.column == y.column && x.half == y.half && x.tier > y.tier {
				return true
			}
		}
	}
	return false
}

// coverAt returns the cover of a bay and row, or -1.
func coverAt(s api.Ship, bay, row int) int {
	for i, c := range s.Covers {
		if c.Bay == bay && slices.Contains(c.Rows, row) {
			return i
		}
	}
	return -1
}

// lid and floor return the cover that a column is under, and the one that it is upon, or -1.
func lid(s api.Ship, column int) int {
	if c := s.Columns[column]; !c.Deck {
		return coverAt(s, c.Bay, c.Row)
	}
	return -1
}

func floor(s api.Ship, column int) int {
	if c := s.Columns[column]; c.Deck {
		return coverAt(s, c.Bay, c.Row)
	}
	return -1
}

// wantReach returns what is reached for with boxes of a state that is right: what is in the way of one of it is added to it as long as there is something.
func (h harbour) wantReach(ids ...int) []int {
	set := map[int]bool{}
	for _, id := range ids {
		set[id] = true
	}
	for grown := true; grown; {
		grown = false
		for _, x := range h.l {
			for _, y := range h.l {
				cover := lid(h.s, x.Slot.Column)
				inWay := stands(y.Slot, x.Slot) || cover >= 0 && floor(h.s, y.Slot.Column) == cover
				if set[x.Box] && !set[y.Box] && inWay {
					set[y.Box] = true
					grown = true
				}
			}
		}
	}
	var l []int
	for id := range set {
		l = append(l, id)
	}
	slices.Sort(l)
	return l
}

// P9.1

func TestFind(t *testing.T) {
	boxes := []api.Box{
		{ID: 3, Number: "a", Size: 40, High: true, Kilos: 5, Load: 1, Discharge: 2, Class: 3, Reefer: true}, {ID: 7, Size: 1}, {ID: 3, Number: "b"},
		{ID: math.MinInt, Kilos: 1}, {ID: -1, Kilos: 2}, {ID: 7, Size: 2}, {ID: math.MaxInt, Kilos: 3}, {ID: 1 << 32, Kilos: 4},
	}
	for _, c := range []struct {
		id int
		at int
	}{{3, 0}, {7, 1}, {math.MinInt, 3}, {-1, 4}, {math.MaxInt, 6}, {1 << 32, 7}} {
		given := spare(boxes)
		if got, ok := stow.Find(given, c.id); got != boxes[c.at] || !ok || !slices.Equal(given[:cap(given)], spare(boxes)[:cap(given)]) {
			t.Error(c, got, ok)
		}
	}
	for _, id := range []int{0, 1, 2, 4, 8, 1<<32 + 3, math.MaxInt - 1, math.MinInt + 1, -3} {
		if got, ok := stow.Find(boxes, id); got != (api.Box{}) || ok {
			t.Error(id, got, ok)
		}
	}
	for _, none := range [][]api.Box{nil, {}, boxes[:0], boxes[1:2]} {
		if got, ok := stow.Find(none, 0); got != (api.Box{}) || ok {
			t.Error(none, got, ok)
		}
	}
	if got, ok := stow.Find([]api.Box{{}}, 0); got != (api.Box{}) || !ok {
		t.Error(got, ok)
	}
}

func TestRightOfTheExample(t *testing.T) {
	h := example()
	if !h.right(t) {
		t.Error("the state is not right")
	}
	for i := range h.l {
		less := h
		less.l = slices.Delete(slices.Clone(h.l), i, i+1)
		// 2 is upon 1, 3 upon 6 and 7.
		if want := h.l[i].Box == 2 || h.l[i].Box == 3; less.right(t) != want {
			t.Error(h.l[i], !want)
		}
	}
	h.l = nil
	if !h.right(t) {
		t.Error("nothing is not right")
	}
	h.boxes = nil
	if !h.right(t) {
		t.Error("nothing of nothing is not right")
	}
}

func TestRightNeedsARightShip(t *testing.T) {
	wrong := []func(*api.Ship){
		func(s *api.Ship) { *s = api.Ship{} },
		func(s *api.Ship) { s.Columns[4].Tiers = 11 },
		func(s *api.Ship) { s.Columns[4].Tiers = 0 },
		func(s *api.Ship) { s.Columns[4].Tiers = math.MinInt },
		func(s *api.Ship) { s.Columns[1].Row = 0 },
		func(s *api.Ship) { s.Columns[0].Height = -1 },
		func(s *api.Ship) { s.Columns[0].Plugs = []int{2} },
		func(s *api.Ship) { s.Covers[0].Rows = nil },
		func(s *api.Ship) { s.Covers[0].Rows = []int{1, 0} },
		func(s *api.Ship) { s.Covers = append(s.Covers, s.Covers[0]) },
		func(s *api.Ship) { s.Covers[0].Bay = 40 },
	}
	for i, spoil := range wrong {
		h := example().copied()
		spoil(&h.s)
		if h.right(t) {
			t.Error(i, "is right")
		}
		h.l = nil
		if h.right(t) {
			t.Error(i, "is right without boxes")
		}
	}
	// What other layers look at is not asked for.
	h := example()
	h.s.Rows, h.s.Frames, h.s.Tanks, h.s.Light = []api.Row{{Draught: -1}}, []api.Frame{{}}, []api.Tank{{}}, api.Light{Kilos: -1}
	if !h.right(t) {
		t.Error("is not right")
	}
}

func TestRightNeedsIncreasingBoxes(t *testing.T) {
	h := mixed()
	for i, c := range []struct {
		ids  []int
		want bool
	}{
		{[]int{3, 4}, true}, {[]int{4, 3}, false}, {[]int{3, 3}, false}, {[]int{-7, 3, 4}, true}, {[]int{3, -7, 4}, false}, {[]int{3, 4, -7}, false},
		{[]int{-7, math.MaxInt}, true}, {[]int{math.MaxInt, -7}, false}, {[]int{3, 4, 16, math.MaxInt}, true}, {[]int{3, 16, 4, math.MaxInt}, false},
	} {
		h.l = nil
		for j, id := range c.ids {
			h.l = append(h.l, at(id, 5, j, 0))
		}
		if got := h.right(t); got != c.want || got != h.wantRight() {
			t.Error(i, got)
		}
	}
	h.l = []api.Stowed{at(math.MinInt, 5, 0, 1), at(math.MaxInt, 5, 1, 0)}
	if h.right(t) {
		t.Error("held by one half")
	}
	h.l = []api.Stowed{at(math.MinInt, 5, 0, 1), at(0, 5, 0, 2), at(math.MaxInt, 5, 1, 0)}
	if !h.right(t) {
		t.Error("is not right")
	}
}

// TestRightOfOneBox tries every box in many slots, alone, and beside a hundred others that the list has but the state has not.
func TestRightOfOneBox(t *testing.T) {
	h := mixed()
	for _, id := range []int{-7, -6, 0, 1, 3, 4, 5, 6, 8, 12, 13, 17, math.MaxInt, math.MinInt, 1<<32 + 3} {
		for _, column := range append([]int{-1, 0, 1, 2, 3, 4, 5, 6, 7, 8, 9, 10}, extremes...) {
			for _, tier := range append([]int{-1, 0, 1, 2}, extremes...) {
				for _, half := range []uint8{0, 1, 2, 3, 128, 255} {
					h.l = []api.Stowed{at(id, column, tier, half)}
					if got := h.right(t); got != h.wantRight() {
						t.Error(h.l, got)
					}
				}
			}
		}
	}
}

func TestRightUsesTheFirstBoxWithAnID(t *testing.T) {
	h := mixed()
	for i, c := range []struct {
		l    []api.Stowed
		want bool
	}{
		{[]api.Stowed{at(3, 5, 0, 0)}, true}, {[]api.Stowed{at(3, 5, 0, 1)}, false}, // 40 feet, and 20 after that
		{[]api.Stowed{at(6, 5, 0, 0)}, false},                                       // 45 feet, and 40 after that
		{[]api.Stowed{at(3, 7, 0, 0)}, true}, {[]api.Stowed{at(5, 7, 0, 0)}, false}, // plain, and high after that
		{[]api.Stowed{at(13, 5, 0, 0)}, false}, {[]api.Stowed{at(13, 5, 0, 1)}, false}, // without a size
	} {
		h.l = c.l
		if got := h.right(t); got != c.want {
			t.Error(i, got)
		}
	}
	h.boxes = []api.Box{{ID: 1}, {ID: 1, Size: 40}, {ID: 2, Size: 20}, {ID: 2}}
	h.l = []api.Stowed{at(1, 5, 0, 0)}
	if h.right(t) {
		t.Error("a box without a size is the first one")
	}
	h.l = []api.Stowed{at(2, 5, 0, 1)}
	if !h.right(t) {
		t.Error("a box without a size is not the first one")
	}
}

func TestRightOfHeights(t *testing.T) {
	sizes := []struct {
		l    []api.Stowed
		high int // of the higher half
	}{
		{[]api.Stowed{at(3, 0, 0, 0)}, 2591},
		{[]api.Stowed{at(5, 0, 0, 0)}, 2896},
		{[]api.Stowed{at(3, 0, 0, 0), at(5, 0, 1, 0)}, 5487},
		{[]api.Stowed{at(8, 0, 0, 1), at(12, 0, 0, 2)}, 2896},
		{[]api.Stowed{at(8, 0, 0, 2), at(12, 0, 0, 1)}, 2896},
		{[]api.Stowed{at(5, 0, 1, 0), at(8, 0, 0, 1), at(12, 0, 0, 2)}, 5792},
		{[]api.Stowed{at(8, 0, 0, 1), at(9, 0, 1, 1), at(10, 0, 2, 1), at(12, 0, 0, 2)}, 7773},
		{[]api.Stowed{at(8, 0, 0, 2), at(9, 0, 1, 2), at(10, 0, 2, 2)}, 7773},
	}
	for i, c := range sizes {
		for _, limit := range []int{0, 1, 2590, 2591, 2592, c.high - 1, c.high, c.high + 1, 40000} {
			h := mixed().copied()
			h.l = c.l
			h.s.Columns[0].Height = limit
			if got := h.right(t); got != (limit == 0 || limit >= c.high) {
				t.Error(i, limit, got)
			}
			// It is the column's own limit that counts.
			h.s.Columns[0].Height, h.s.Columns[1].Height = 0, limit
			if !h.right(t) {
				t.Error(i, limit, "of another column")
			}
		}
	}
}

// everywhere returns all boxes of some, each of which is in one of some slots or ashore; f is called for each state.
func everywhere(ids []int, slots []api.Slot, f func([]api.Stowed)) {
	var stowed func(l []api.Stowed, ids []int)
	stowed = func(l []api.Stowed, ids []int) {
		if len(ids) == 0 {
			f(l)
			return
		}
		stowed(l, ids[1:])
		for _, x := range slots {
			stowed(append(slices.Clip(l), api.Stowed{Box: ids[0], Slot: x}), ids[1:])
		}
	}
	stowed(nil, ids)
}

// small is a ship with a hold, its cover, and a deck upon it, and with a hold under no cover; two boxes of each size.
func small() harbour {
	return harbour{
		s:     api.Ship{Columns: []api.Column{{Row: 5, Deck: true, Tiers: 2, Height: 5400}, {Row: 5, Tiers: 2}, {Row: 6, Tiers: 1}}, Covers: []api.Cover{{Rows: []int{5}}}},
		boxes: []api.Box{{ID: 1, Size: 40, High: true}, {ID: 2, Size: 20}, {ID: 3, Size: 20, High: true}, {ID: 4, Size: 40}},
	}
}

// states returns all states of a ship with its boxes in slots of these tiers and halves, whether they are right or not.
func (h harbour) states(f func([]api.Stowed)) {
	var slots []api.Slot
	for i, c := range h.s.Columns {
		for tier := range c.Tiers {
			for _, half := range []uint8{0, 1, 2} {
				slots = append(slots, api.Slot{Column: i, Tier: tier, Half: half})
			}
		}
	}
	var ids []int
	for _, b := range h.boxes {
		ids = append(ids, b.ID)
	}
	everywhere(ids, slots, f)
}

func TestRightOfEachSmallState(t *testing.T) {
	h := small()
	right := 0
	h.states(func(l []api.Stowed) {
		h.l = l
		is := stow.Right(h.s, h.boxes, l)
		if is != h.wantRight() {
			t.Error(l, is)
		}
		if is {
			right++
		}
	})
	if right < 100 {
		t.Error(right, "are right")
	}
}

// rightStates returns the states of a ship that are right.
func rightStates(h harbour) [][]api.Stowed {
	var l [][]api.Stowed
	h.states(func(state []api.Stowed) {
		h.l = state
		if h.wantRight() {
			l = append(l, slices.Clone(state))
		}
	})
	return l
}

// random returns a state that is right, of up to n boxes, most of them far up.
func (h harbour) random(r *rand.Rand, n int) []api.Stowed {
	h.l = nil
	for range n * 6 {
		b := h.boxes[r.Intn(len(h.boxes))]
		column := r.Intn(len(h.s.Columns))
		tier := r.Intn(h.s.Columns[column].Tiers)
		x := at(b.ID, column, tier, uint8(r.Intn(3)))
		more := h
		more.l = inserted(h.l, x)
		if len(more.l) <= n && more.wantRight() {
			h = more
		}
	}
	return h.l
}

// inserted returns a state with one more box.
func inserted(l []api.Stowed, x api.Stowed) []api.Stowed {
	var more []api.Stowed
	for _, y := range l {
		if y.Box < x.Box {
			more = append(more, y)
		}
	}
	more = append(more, x)
	for _, y := range l {
		if y.Box >= x.Box {
			more = append(more, y)
		}
	}
	return more
}

func TestRightOfRandomStates(t *testing.T) {
	r := rand.New(rand.NewSource(1))
	right := 0
	for range 3000 {
		h := mixed()
		h.l = h.random(r, r.Intn(14))
		if !h.right(t) {
			t.Error("not right", h.l)
		}
		if len(h.l) == 0 {
			continue
		}
		x := &h.l[r.Intn(len(h.l))]
		switch r.Intn(6) {
		case 0:
			x.Slot.Column = r.Intn(11) - 1
		case 1:
			x.Slot.Tier += r.Intn(3) - 1
		case 2:
			x.Slot.Half = uint8(r.Intn(4))
		case 3:
			x.Box = r.Intn(20) - 2
		case 4:
			h.l = slices.DeleteFunc(h.l, func(y api.Stowed) bool { return y.Box == x.Box })
		case 5:
			y := &h.l[r.Intn(len(h.l))]
			x.Slot, y.Slot = y.Slot, x.Slot
		}
		got := h.right(t)
		if got != h.wantRight() {
			t.Error(h.l, got)
		}
		if got {
			right++
		}
	}
	if right < 500 || right > 2500 {
		t.Error(right, "are right")
	}
}

// largest is the largest ship, with a cover over each bay, and with 2000 boxes, of 40 or of 20 feet.
func largest(size uint8) harbour {
	var h harbour
	for i := range 200 {
		h.s.Columns = append(h.s.Columns, api.Column{Bay: i / 5, Row: i % 5, Deck: i/5%2 == 1, Tiers: 10, Height: 40000})
	}
	for i := range h.s.Columns {
		h.s.Columns[i].Bay /= 2
	}
	for i := range 20 {
		h.s.Covers = append(h.s.Covers, api.Cover{Bay: i, Rows: []int{0, 1, 2, 3, 4}})
	}
	for i := range 2000 {
		// The boxes are in no order, the state is.
		h.boxes = append(h.boxes, api.Box{ID: i * 1237 % 2000, Size: size, High: true})
		if size == 40 {
			h.l = append(h.l, at(i, i%200, i/200, 0))
		} else {
			h.l = append(h.l, at(i, i%200, i/400, uint8(1+i/200%2)))
		}
	}
	return h
}

func TestLargest(t *testing.T) {
	for _, size := range []uint8{20, 40} {
		h := largest(size)
		if !h.right(t) {
			t.Error(size, "is not right")
		}
		// Ten high boxes are 28960 high.
		want := 28960
		if size == 20 {
			want /= 2
		}
		for column := range h.s.Columns {
			if got := h.height(t, column, 2); got != want {
				t.Error(size, column, got)
			}
		}
		h.s.Columns[117].Height = want
		if !h.right(t) {
			t.Error(size, "is not right as high as it can be")
		}
		h.s.Columns[117].Height--
		if h.right(t) {
			t.Error(size, "is right too high")
		}
	}
	// As many boxes as there are halves, and one more.
	h := largest(20)
	h.boxes, h.l = nil, nil
	for i := range 4000 {
		h.boxes = append(h.boxes, api.Box{ID: i, Size: 20})
		h.l = append(h.l, at(i, i%200, i/400, uint8(1+i/200%2)))
	}
	if !h.right(t) {
		t.Error("a full ship is not right")
	}
	h.boxes = append(h.boxes, api.Box{ID: 4000, Size: 20})
	h.l = append(h.l, at(4000, 0, 9, 2))
	if h.right(t) {
		t.Error("a ship with a box too many is right")
	}
}

// TestRightOfManyInOneColumn does not end in time if each box is compared with each other one.
func TestRightOfManyInOneColumn(t *testing.T) {
	h := example()
	h.boxes, h.l = nil, nil
	for i := range 300000 {
		h.boxes = append(h.boxes, api.Box{ID: i, Size: 20})
		h.l = append(h.l, at(i, 0, i%2, uint8(1+i/2%2)))
	}
	for _, n := range []int{4, 5, 28, 29, 300000} {
		if got := stow.Right(h.s, h.boxes, h.l[:n]); got != (n == 4) {
			t.Error(n, got)
		}
	}
}

func TestHeight(t *testing.T) {
	h := example()
	for _, c := range []struct {
		column int
		half   uint8
		want   int
	}{
		{0, 0, 5182}, {0, 1, 5182}, {0, 2, 5182}, {0, 3, 5182}, {0, 255, 5182},
		{1, 1, 0}, {2, 0, 2591}, {2, 1, 5182}, {2, 2, 5182}, {2, 3, 2591}, {3, 2, 0}, {4, 0, 0}, {5, 1, 0}, {-1, 1, 0},
	} {
		if got := h.height(t, c.column, c.half); got != c.want {
			t.Error(c, got)
		}
	}
	if n := stow.Height(nil, h.l, 0, 1); n != 0 {
		t.Error(n, "without boxes")
	}
	if n := stow.Height(h.boxes, nil, 0, 1); n != 0 {
		t.Error(n, "without a state")
	}
}

// TestHeightOfAnyState compares with a sum of what each single box adds, for states of any kind.
func TestHeightOfAnyState(t *testing.T) {
	r := rand.New(rand.NewSource(2))
	numbers := append([]int{-1, 0, 1, 2}, extremes...)
	any := func() int { return numbers[r.Intn(len(numbers))] }
	for range 3000 {
		var h harbour
		for range r.Intn(8) {
			h.boxes = append(h.boxes, api.Box{ID: any(), Size: uint8(r.Intn(256)), High: r.Intn(2) == 0})
		}
		for range r.Intn(12) {
			h.l = append(h.l, at(any(), any()%3, any(), uint8(r.Intn(4))))
		}
		column, half := any()%3, uint8(r.Intn(4))
		want := 0
		for _, x := range h.l {
			if x.Slot.Column == column && (x.Slot.Half == half || x.Slot.Half == 0) {
				want += tallness(boxOf(h.boxes, x.Box))
			}
		}
		if got := h.height(t, column, half); got != want {
			t.Error(h, column, half, got, want)
		}
	}
}

// P9.2

func TestAboveInTheExample(t *testing.T) {
	h := example()
	for id, want := range map[int][]int{1: {2}, 2: nil, 3: nil, 6: {3}, 7: {3}} {
		if got, e := h.above(t, id); !slices.Equal(got, want) || e != api.OK {
			t.Error(id, got, e)
		}
	}
	for _, id := range append([]int{0, 4, 5, 8, -1}, extremes...) {
		if got, e := h.above(t, id); got != nil || e != api.ErrNone {
			t.Error(id, got, e)
		}
	}
	if got, e := stow.Above(nil, 0); got != nil || e != api.ErrNone {
		t.Error(got, e)
	}
}

// TestAboveInAnyState tries states that are not right: their order counts, and of several boxes with one number the first one.
func TestAboveInAnyState(t *testing.T) {
	h := harbour{l: []api.Stowed{
		at(9, 1, 0, 1), at(4, 1, 8, 0), at(3, 1, -1, 1), at(2, 1, 1, 2), at(9, 1, 5, 0), at(5, 1, 3, 1), at(6, 2, 3, 1), at(7, 1, 0, 0), at(9, 1, 1, 1), at(8, 1, 2, 3), at(1, -4, math.MinInt, 7), at(0, -4, math.MaxInt, 7), at(10, -4, 0, 8),
	}}
	for id, want := range map[int][]int{
		9: {4, 9, 5, 9}, 4: nil, 3: {9, 4, 9, 5, 7, 9}, 2: {4, 9}, 5: {4, 9}, 6: nil, 7: {4, 2, 9, 5, 9, 8}, 8: {4, 9}, 1: {0}, 0: nil, 10: nil,
	} {
		if got, e := h.above(t, id); !slices.Equal(got, want) || e != api.OK {
			t.Error(id, got, e)
		}
	}
}

func TestAboveInRandomStates(t *testing.T) {
	r := rand.New(rand.NewSource(3))
	for range 300 {
		h := mixed()
		h.l = h.random(r, 14)
		r.Shuffle(len(h.l), func(i, j int) { h.l[i], h.l[j] = h.l[j], h.l[i] })
		for _, x := range h.l {
			var want []int
			for _, y := range h.l {
				if stands(y.Slot, x.Slot) {
					want = append(want, y.Box)
				}
			}
			if got, e := h.above(t, x.Box); !slices.Equal(got, want) || e != api.OK {
				t.Error(h.l, x, got, e)
			}
		}
	}
}

// P9.3

func TestReachInTheExample(t *testing.T) {
	h := example()
	for _, c := range []struct{ ids, want []int }{
		{[]int{1}, []int{1, 2, 3, 6, 7}}, {[]int{2}, []int{2, 3, 6, 7}}, {[]int{7}, []int{3, 7}}, {[]int{6}, []int{3, 6}}, {[]int{3}, []int{3}},
		{nil, nil}, {[]int{}, nil}, {[]int{7, 6}, []int{3, 6, 7}}, {[]int{7, 7, 3, 7}, []int{3, 7}}, {[]int{7, 2, 3}, []int{2, 3, 6, 7}},
	} {
		if got, e := h.reach(t, c.ids...); !slices.Equal(got, c.want) || e != api.OK {
			t.Error(c, got, e)
		}
	}
	for _, ids := range [][]int{{4}, {0}, {-1}, {1, 4}, {4, 1}, {1, 2, 3, 6, 7, 8}, {math.MaxInt}, {math.MinInt}, {1<<32 + 1}} {
		if got, e := h.reach(t, ids...); got != nil || e != api.ErrNone {
			t.Error(ids, got, e)
		}
	}
}

func TestReachNeedsARightState(t *testing.T) {
	for i, h := range wrongStates() {
		for _, ids := range [][]int{nil, {1}, {99}} {
			if got, e := h.reach(t, ids...); got != nil || e != api.ErrArg {
				t.Error(i, ids, got, e)
			}
		}
	}
}

// wrongStates returns what is right but for one thing, each time another one.
func wrongStates() []harbour {
	wrong := []func(*harbour){
		func(h *harbour) { h.s = api.Ship{} },
		func(h *harbour) { h.s.Columns[3].Row = 0 },
		func(h *harbour) { h.s.Covers[0].Rows = []int{1, 1} },
		func(h *harbour) { h.boxes = nil },
		func(h *harbour) { h.boxes[0].Size = 45 },
		func(h *harbour) { h.boxes[0].Size = 20 },
		func(h *harbour) { h.boxes[6].ID = 8 },
		func(h *harbour) { h.l[0], h.l[1] = h.l[1], h.l[0] },
		func(h *harbour) { h.l[4].Box = 6 },
		func(h *harbour) { h.l[1].Slot.Column = 5 },
		func(h *harbour) { h.l[1].Slot.Tier = 2 },
		func(h *harbour) { h.l[1].Slot.Tier = 0 },
		func(h *harbour) { h.l[1].Slot.Half = 1 },
		func(h *harbour) { h.l[4].Slot.Half = 1 },
		func(h *harbour) { h.l[4].Slot.Half = 3 },
		func(h *harbour) { h.l[4].Slot.Column = 3 },
		func(h *harbour) { h.s.Columns[2].Height = 5181 },
	}
	var l []harbour
	for _, spoil := range wrong {
		h := example().copied()
		spoil(&h)
		l = append(l, h)
	}
	return l
}

func TestReachInEachSmallState(t *testing.T) {
	h := small()
	for _, l := range rightStates(h) {
		h.l = l
		for subset := range 1 << len(l) {
			var ids []int
			for i, x := range l {
				if subset>>i&1 == 1 {
					ids = append(ids, x.Box)
				}
			}
			want := h.wantReach(ids...)
			slices.Reverse(ids)
			if got, e := h.reach(t, ids...); !slices.Equal(got, want) || e != api.OK {
				t.Error(l, ids, got, e)
			}
		}
	}
}

func TestReachInRandomStates(t *testing.T) {
	r := rand.New(rand.NewSource(4))
	for range 1500 {
		h := mixed()
		h.l = h.random(r, 17)
		var ids []int
		for range r.Intn(4) {
			if len(h.l) > 0 {
				ids = append(ids, h.l[r.Intn(len(h.l))].Box)
			}
		}
		if got, e := h.reach(t, ids...); !slices.Equal(got, h.wantReach(ids...)) || e != api.OK {
			t.Error(h.l, ids, got, e)
		}
		if got, e := h.reach(t, append(ids, 99)...); got != nil || e != api.ErrNone {
			t.Error(h.l, ids, got, e)
		}
	}
}

func TestReachInTheLargestShip(t *testing.T) {
	for _, size := range []uint8{20, 40} {
		h := largest(size)
		var all []int
		for i := range 2000 {
			all = append(all, i)
		}
		if got, e := h.reach(t, all...); !slices.Equal(got, all) || e != api.OK {
			t.Error(len(got), e)
		}
		// The columns 5 to 9 are upon the cover over the columns 0 to 4.
		want := []int{}
		for i := range 2000 {
			if i%200 >= 5 && i%200 < 10 || i%200 == 3 && (size == 40 || i/200%2 == 0) {
				want = append(want, i)
			}
		}
		if got, e := h.reach(t, 3); !slices.Equal(got, want) || e != api.OK {
			t.Error(got, e)
		}
	}
}
