package stow_test

import (
	"math"
	"math/rand"
	"slices"
	"testing"

	"twistlock/api"
	"twistlock/stow"
)

// take asks Take, and Free, which has the same error.
func (h harbour) take(t *testing.T, id int) ([]api.Stowed, api.Errno) {
	t.Helper()
	got, e := asked(t, h, func(h harbour) ([]api.Stowed, api.Errno) { return stow.Take(h.s, h.boxes, h.l, h.open, id) })
	_, free := asked(t, h, func(h harbour) ([]int, api.Errno) { return nil, stow.Free(h.s, h.boxes, h.l, h.open, id) })
	if free != e {
		t.Error("Free and Take differ", h.l, h.open, id, free, e)
	}
	return got, e
}

func (h harbour) put(t *testing.T, x api.Stowed) ([]api.Stowed, api.Errno) {
	t.Helper()
	return asked(t, h, func(h harbour) ([]api.Stowed, api.Errno) { return stow.Put(h.s, h.boxes, h.l, h.open, x) })
}

func (h harbour) opened(t *testing.T, cover int) ([]int, api.Errno) {
	t.Helper()
	return asked(t, h, func(h harbour) ([]int, api.Errno) { return stow.Open(h.s, h.boxes, h.l, h.open, cover) })
}

func (h harbour) closed(t *testing.T, cover int) ([]int, api.Errno) {
	t.Helper()
	return asked(t, h, func(h harbour) ([]int, api.Errno) { return stow.Close(h.s, h.boxes, h.l, h.open, cover) })
}

// wantTake returns what Take does with a state and open covers that are right.
func (h harbour) wantTake(id int) ([]api.Stowed, api.Errno) {
	for i, x := range h.l {
		if x.Box != id {
			continue
		}
		for _, y := range h.l {
			if stands(y.Slot, x.Slot) {
				return nil, 90
			}
		}
		if cover := lid(h.s, x.Slot.Column); cover >= 0 && !slices.Contains(h.open, cover) {
			return nil, 91
		}
		return append(slices.Clone(h.l[:i]), h.l[i+1:]...), 0
	}
	return nil, 6
}

// wantPut returns what Put does with a state and open covers that are right.
func (h harbour) wantPut(x api.Stowed) ([]api.Stowed, api.Errno) {
	b := boxOf(h.boxes, x.Box)
	if b == nil || b.Size != 20 && b.Size != 40 {
		return nil, 6
	}
	if slices.ContainsFunc(h.l, func(y api.Stowed) bool { return y.Box == x.Box }) {
		return nil, 96
	}
	if !hasSlot(h.s, x.Slot, b) {
		return nil, 97
	}
	above, below := lid(h.s, x.Slot.Column), floor(h.s, x.Slot.Column)
	if above >= 0 && !slices.Contains(h.open, above) || slices.Contains(h.open, below) {
		return nil, 91
	}
	in := map[cell]*api.Box{}
	for _, y := range h.l {
		for _, c := range cellsOf(y.Slot) {
			in[c] = boxOf(h.boxes, y.Box)
		}
	}
	for _, c := range cellsOf(x.Slot) {
		if in[c] != nil {
			return nil, 92
		}
	}
	for _, c := range cellsOf(x.Slot) {
		on := in[cell{c.column, c.tier - 1, c.half}]
		if c.tier > 0 && (on == nil || b.Size == 20 && on.Size == 40) {
			return nil, 93
		}
	}
	h.l = inserted(h.l, x)
	if !h.wantRight() {
		return nil, 94
	}
	return h.l, 0
}

// wantOpen returns what Open does with a state and open covers that are right.
func (h harbour) wantOpen(cover int) ([]int, api.Errno) {
	if cover < 0 || cover >= len(h.s.Covers) {
		return nil, 6
	}
	for _, x := range h.l {
		if floor(h.s, x.Slot.Column) == cover {
			return nil, 95
		}
	}
	var l []int
	for i := range h.s.Covers {
		if i == cover || slices.Contains(h.open, i) {
			l = append(l, i)
		}
	}
	return l, 0
}

// wantClose returns what Close does with a state and open covers that are right.
func (h harbour) wantClose(cover int) ([]int, api.Errno) {
	if cover < 0 || cover >= len(h.s.Covers) {
		return nil, 6
	}
	return slices.DeleteFunc(slices.Clone(h.open), func(i int) bool { return i == cover }), 0
}

// wrongOpen are no lists of open covers of a ship with so many of them.
func wrongOpen(covers int) [][]int {
	l := [][]int{{covers}, {-1}, {0, 0}, {1, 0}, {0, -1}, {-1, 0}, {0, covers}, {0, 1, 1}, {0, 2, 1}}
	for _, n := range extremes {
		l = append(l, []int{n}, []int{0, n})
	}
	return l
}

// opens returns all lists of open covers of a ship.
func (h harbour) opens() [][]int {
	var l [][]int
	for set := range 1 << len(h.s.Covers) {
		var open []int
		for i := range h.s.Covers {
			if set>>i&1 == 1 {
				open = append(open, i)
			}
		}
		l = append(l, open)
	}
	return l
}

func TestErrors(t *testing.T) {
	if l := [8]api.Errno{stow.ErrBuried, stow.ErrShut, stow.ErrTaken, stow.ErrHeld, stow.ErrHigh, stow.ErrUpon, stow.ErrTwice, stow.ErrSlot}; l != [8]api.Errno{90, 91, 92, 93, 94, 95, 96, 97} {
		t.Error(l)
	}
}

// argues tests that all functions of open covers return ErrArg, whatever else is wrong.
func (h harbour) argues(t *testing.T) {
	t.Helper()
	for _, id := range []int{3, 1, 2, 99} {
		if got, e := h.take(t, id); got != nil || e != api.ErrArg {
			t.Error("take", h.open, id, got, e)
		}
	}
	for _, x := range []api.Stowed{at(4, 2, 2, 0), at(4, 3, 0, 0), at(1, 0, 0, 0), at(99, 0, 0, 0), at(4, 9, 0, 0), at(4, 1, 0, 0), at(4, 4, 1, 0)} {
		if got, e := h.put(t, x); got != nil || e != api.ErrArg {
			t.Error("put", h.open, x, got, e)
		}
	}
	for _, cover := range []int{0, 1, 2, 3, -1, 99} {
		if got, e := h.opened(t, cover); got != nil || e != api.ErrArg {
			t.Error("open", h.open, cover, got, e)
		}
		if got, e := h.closed(t, cover); got != nil || e != api.ErrArg {
			t.Error("close", h.open, cover, got, e)
		}
	}
}

func TestStateThatIsNotRight(t *testing.T) {
	for _, h := range wrongStates() {
		for _, open := range [][]int{nil, {0}, {7}} {
			h.open = open
			h.argues(t)
		}
	}
}

func TestOpenCoversThatAreNotRight(t *testing.T) {
	h := example()
	more := example()
	more.s.Covers = append(more.s.Covers, api.Cover{Bay: 3, Rows: []int{0}}, api.Cover{Bay: 1, Rows: []int{4}})
	none := example()
	none.s.Covers = nil
	for _, h := range []harbour{h, more, none} {
		for _, open := range wrongOpen(len(h.s.Covers)) {
			h.open = open
			h.argues(t)
		}
	}
	for _, open := range more.opens() {
		more.open = open
		if got, e := more.take(t, 3); len(got) != 4 || e != api.OK {
			t.Error(open, got, e)
		}
	}
}

// P9.4

func TestTakeInTheExample(t *testing.T) {
	h := example()
	for _, c := range []struct {
		open []int
		id   int
		e    api.Errno
	}{
		{nil, 1, stow.ErrBuried}, {nil, 2, stow.ErrShut}, {nil, 3, api.OK}, {nil, 6, stow.ErrBuried}, {nil, 7, stow.ErrBuried},
		{[]int{0}, 1, stow.ErrBuried}, {[]int{0}, 2, api.OK}, {[]int{0}, 3, api.OK}, {[]int{0}, 6, stow.ErrBuried},
		{nil, 4, api.ErrNone}, {nil, 0, api.ErrNone}, {[]int{0}, 8, api.ErrNone}, {nil, math.MinInt, api.ErrNone}, {nil, 1<<32 + 3, api.ErrNone},
	} {
		h.open = c.open
		got, e := h.take(t, c.id)
		want := slices.DeleteFunc(slices.Clone(h.l), func(x api.Stowed) bool { return x.Box == c.id || e != api.OK })
		if e != c.e || !slices.Equal(got, want) {
			t.Error(c, got, e)
		}
	}
}

// TestTakeOfTheOnlyBox tries each column: on deck, in the hold, and under no cover.
func TestTakeOfTheOnlyBox(t *testing.T) {
	h := mixed()
	for column := range h.s.Columns {
		h.s.Columns[column].Height = 0
		h.l = []api.Stowed{at(4, column, 0, 0)}
		for _, open := range h.opens() {
			h.open = open
			var e api.Errno
			if column < 2 && !slices.Contains(open, 2) || column == 6 && !slices.Contains(open, 0) {
				e = stow.ErrShut
			}
			if got, got2 := h.take(t, 4); len(got) != 0 || got2 != e {
				t.Error(column, open, got, got2)
			}
		}
	}
}

// P9.5

func TestPutInTheExample(t *testing.T) {
	h := example()
	if got, e := h.put(t, at(4, 2, 2, 0)); e != api.OK || !slices.Equal(got, []api.Stowed{at(1, 0, 0, 0), at(2, 0, 1, 0), at(3, 2, 1, 0), at(4, 2, 2, 0), at(6, 2, 0, 1), at(7, 2, 0, 2)}) {
		t.Error(got, e)
	}
	if got, e := h.put(t, at(5, 3, 1, 0)); got != nil || e != stow.ErrHeld {
		t.Error(got, e)
	}
}

// TestErrorsOfPut has, for each error, a box for which all later conditions do not hold either, as far as that can be.
func TestErrorsOfPut(t *testing.T) {
	h := mixed()
	h.l = []api.Stowed{at(3, 2, 0, 0), at(4, 4, 0, 0), at(8, 3, 0, 1), at(9, 0, 0, 2), at(10, 6, 0, 1)}
	h.s.Columns[4].Height = 2591
	for i, c := range []struct {
		open []int
		x    api.Stowed
		e    api.Errno
	}{
		{nil, at(99, 2, 0, 0), api.ErrNone}, {nil, at(6, 2, 0, 0), api.ErrNone}, {nil, at(13, 5, 0, 0), api.ErrNone}, {nil, at(6, 99, -1, 7), api.ErrNone},
		{nil, at(3, 99, 0, 0), stow.ErrTwice}, {nil, at(3, 5, 0, 0), stow.ErrTwice}, {nil, at(3, 2, 0, 0), stow.ErrTwice}, {nil, at(9, 0, 0, 2), stow.ErrTwice},
		{nil, at(5, 2, 0, 1), stow.ErrSlot}, {nil, at(5, 0, 3, 0), stow.ErrSlot}, {nil, at(5, 9, 0, 0), stow.ErrSlot}, {nil, at(5, -1, 0, 0), stow.ErrSlot}, {nil, at(11, 0, 0, 0), stow.ErrSlot}, {nil, at(11, 0, 0, 3), stow.ErrSlot}, {nil, at(11, 0, -1, 1), stow.ErrSlot}, {nil, at(5, math.MaxInt, 0, 0), stow.ErrSlot}, {nil, at(5, math.MinInt, math.MinInt, 0), stow.ErrSlot}, {nil, at(5, 1<<32, 0, 0), stow.ErrSlot}, {nil, at(5, 0, 1<<32, 0), stow.ErrSlot},
		{nil, at(5, 0, 0, 0), stow.ErrShut}, {nil, at(11, 0, 0, 1), stow.ErrShut}, {[]int{0, 1}, at(11, 0, 2, 1), stow.ErrShut}, {[]int{1, 2}, at(10, 6, 0, 1), stow.ErrTwice}, {[]int{1, 2}, at(5, 6, 0, 0), stow.ErrShut}, {[]int{2}, at(5, 2, 0, 0), stow.ErrShut}, {[]int{2}, at(5, 2, 2, 0), stow.ErrShut}, {[]int{0}, at(5, 7, 0, 0), stow.ErrShut},
		{[]int{2}, at(5, 0, 0, 0), stow.ErrTaken}, {[]int{2}, at(11, 0, 0, 2), stow.ErrTaken}, {nil, at(5, 2, 0, 0), stow.ErrTaken}, {[]int{0, 1}, at(11, 2, 0, 1), stow.ErrTaken}, {nil, at(16, 4, 0, 0), stow.ErrTaken}, {nil, at(5, 3, 0, 0), stow.ErrTaken},
		{[]int{2}, at(5, 0, 1, 0), stow.ErrHeld}, {[]int{2}, at(11, 0, 1, 1), stow.ErrHeld}, {nil, at(11, 2, 1, 1), stow.ErrHeld}, {nil, at(11, 4, 1, 1), stow.ErrHeld}, {nil, at(5, 2, 2, 0), stow.ErrHeld}, {nil, at(5, 3, 1, 0), stow.ErrHeld}, {nil, at(12, 5, 1, 2), stow.ErrHeld}, {[]int{2}, at(11, 0, 2, 2), stow.ErrHeld},
		{nil, at(16, 4, 1, 0), stow.ErrHigh}, {nil, at(5, 4, 1, 0), stow.ErrHigh}, {nil, at(5, 7, 0, 0), stow.ErrHigh},
	} {
		h.open = c.open
		if got, e := h.put(t, c.x); got != nil || e != c.e {
			t.Error(i, c, got, e)
		}
	}
}

// TestPutOfCovers puts a box into the lowest slot of each column with each list of open covers.
func TestPutOfCovers(t *testing.T) {
	h := mixed()
	for column := range h.s.Columns {
		h.s.Columns[column].Height = 0
		for _, open := range h.opens() {
			h.open = open
			var e api.Errno
			switch cover := []int{2, 2, 2, 2, -1, -1, 0, 0, -1}[column]; {
			case h.s.Columns[column].Deck && slices.Contains(open, cover):
				e = stow.ErrShut
			case !h.s.Columns[column].Deck && cover >= 0 && !slices.Contains(open, cover):
				e = stow.ErrShut
			}
			got, got2 := h.put(t, at(4, column, 0, 0))
			if got2 != e || e == api.OK && !slices.Equal(got, []api.Stowed{at(4, column, 0, 0)}) {
				t.Error(column, open, got, got2)
			}
		}
	}
}

func TestPutOfHeights(t *testing.T) {
	for i, c := range []struct {
		l    []api.Stowed
		x    api.Stowed
		high int // of the higher half, with the box
	}{
		{nil, at(4, 0, 0, 0), 2591},
		{nil, at(5, 0, 0, 0), 2896},
		{nil, at(12, 0, 0, 1), 2896},
		{nil, at(8, 0, 0, 2), 2591},
		{[]api.Stowed{at(4, 0, 0, 0)}, at(5, 0, 1, 0), 5487},
		{[]api.Stowed{at(5, 0, 0, 0)}, at(4, 0, 1, 0), 5487},
		{[]api.Stowed{at(8, 0, 0, 1), at(12, 0, 0, 2)}, at(4, 0, 1, 0), 5487},
		{[]api.Stowed{at(8, 0, 0, 2), at(12, 0, 0, 1)}, at(4, 0, 1, 0), 5487},
		{[]api.Stowed{at(8, 0, 0, 2), at(12, 0, 0, 1)}, at(9, 0, 1, 1), 5487},
		{[]api.Stowed{at(8, 0, 0, 1), at(9, 0, 1, 1), at(10, 0, 0, 2)}, at(12, 0, 1, 2), 5487},
		{[]api.Stowed{at(4, 0, 0, 0), at(16, 0, 1, 0)}, at(-7, 0, 2, 0), 7773},
	} {
		for _, limit := range []int{0, c.high - 1, c.high, 40000} {
			h := mixed().copied()
			h.open = []int{2}
			h.l = c.l
			h.s.Columns[0].Height = limit
			var want api.Errno
			if limit > 0 && limit < c.high {
				want = stow.ErrHigh
			}
			if got, e := h.put(t, c.x); e != want || e == api.OK && !slices.Equal(got, inserted(c.l, c.x)) {
				t.Error(i, limit, got, e)
			}
		}
	}
}

// TestPutKeepsTheOrder puts a box before, between and after others.
func TestPutKeepsTheOrder(t *testing.T) {
	h := mixed()
	h.l = []api.Stowed{at(4, 5, 0, 0), at(8, 8, 0, 2), at(16, 5, 1, 0)}
	for _, id := range []int{-7, 0, 3, 5, 9, 10, 11, 12, 14, 15, math.MaxInt, math.MinInt} {
		half := uint8(0)
		if boxOf(h.boxes, id).Size == 20 {
			half = 1
		}
		x := at(id, 3, 0, half)
		want := append(slices.Clone(h.l), x)
		slices.SortFunc(want, func(a, b api.Stowed) int {
			if a.Box < b.Box {
				return -1
			}
			return 1
		})
		if got, e := h.put(t, x); !slices.Equal(got, want) || e != api.OK {
			t.Error(id, got, e)
		}
	}
}

// moves compares everything that can be done with a state and open covers that are right with what is expected.
func (h harbour) moves(t *testing.T, slots []api.Slot) {
	t.Helper()
	ids := []int{99, -1}
	for _, b := range h.boxes {
		ids = append(ids, b.ID)
	}
	for _, id := range ids {
		got, e := stow.Take(h.s, h.boxes, h.l, h.open, id)
		if want, e2 := h.wantTake(id); !slices.Equal(got, want) || e != e2 {
			t.Error("take", h.l, h.open, id, got, e, want, e2)
		}
		if free := stow.Free(h.s, h.boxes, h.l, h.open, id); free != e {
			t.Error("free", h.l, h.open, id, free, e)
		}
		for _, x := range slots {
			got, e := stow.Put(h.s, h.boxes, h.l, h.open, api.Stowed{Box: id, Slot: x})
			if want, e2 := h.wantPut(api.Stowed{Box: id, Slot: x}); !slices.Equal(got, want) || e != e2 {
				t.Error("put", h.l, h.open, id, x, got, e, want, e2)
			}
		}
	}
	for cover := -1; cover <= len(h.s.Covers); cover++ {
		got, e := stow.Open(h.s, h.boxes, h.l, h.open, cover)
		if want, e2 := h.wantOpen(cover); !slices.Equal(got, want) || e != e2 {
			t.Error("open", h.l, h.open, cover, got, e, want, e2)
		}
		got, e = stow.Close(h.s, h.boxes, h.l, h.open, cover)
		if want, e2 := h.wantClose(cover); !slices.Equal(got, want) || e != e2 {
			t.Error("close", h.l, h.open, cover, got, e, want, e2)
		}
	}
}

// around returns the slots of a ship, and some beside them.
func around(s api.Ship) []api.Slot {
	var l []api.Slot
	for column := -1; column <= len(s.Columns); column++ {
		most := 0
		if column >= 0 && column < len(s.Columns) {
			most = s.Columns[column].Tiers
		}
		for tier := -1; tier <= most; tier++ {
			for half := range uint8(4) {
				l = append(l, api.Slot{Column: column, Tier: tier, Half: half})
			}
		}
	}
	return l
}

func TestMovesInEachSmallState(t *testing.T) {
	h := small()
	slots := around(h.s)
	for _, l := range rightStates(h) {
		h.l = l
		for _, open := range h.opens() {
			h.open = open
			h.moves(t, slots)
		}
	}
}

func TestMovesInRandomStates(t *testing.T) {
	r := rand.New(rand.NewSource(5))
	for range 200 {
		h := mixed()
		h.l = h.random(r, r.Intn(17))
		opens := h.opens()
		h.open = opens[r.Intn(len(opens))]
		slots := around(h.s)
		r.Shuffle(len(slots), func(i, j int) { slots[i], slots[j] = slots[j], slots[i] })
		h.moves(t, slots[:40])
	}
}

// P9.6

func TestOpenAndClose(t *testing.T) {
	h := example()
	if got, e := h.opened(t, 0); got != nil || e != stow.ErrUpon {
		t.Error(got, e)
	}
	h = mixed()
	h.l = []api.Stowed{at(4, 0, 0, 0), at(8, 5, 0, 2), at(9, 8, 0, 1)}
	for _, c := range []struct {
		open, with, without []int
		cover               int
	}{
		{nil, []int{0}, nil, 0}, {nil, []int{1}, nil, 1}, {nil, []int{2}, nil, 2},
		{[]int{1}, []int{0, 1}, []int{1}, 0}, {[]int{1}, []int{1}, nil, 1}, {[]int{1}, []int{1, 2}, []int{1}, 2},
		{[]int{0, 2}, []int{0, 2}, []int{2}, 0}, {[]int{0, 2}, []int{0, 1, 2}, []int{0, 2}, 1}, {[]int{0, 2}, []int{0, 2}, []int{0}, 2},
		{[]int{0, 1, 2}, []int{0, 1, 2}, []int{0, 2}, 1},
	} {
		h.open = c.open
		if got, e := h.opened(t, c.cover); !slices.Equal(got, c.with) || e != api.OK {
			t.Error(c, got, e)
		}
		if got, e := h.closed(t, c.cover); !slices.Equal(got, c.without) || e != api.OK {
			t.Error(c, got, e)
		}
	}
}

func TestCoversThatThereAreNot(t *testing.T) {
	for _, h := range []harbour{example(), mixed()} {
		for _, open := range h.opens() {
			h.open = open
			for _, cover := range append([]int{-1, len(h.s.Covers), 39, 40}, extremes...) {
				if got, e := h.opened(t, cover); got != nil || e != api.ErrNone {
					t.Error(open, cover, got, e)
				}
				if got, e := h.closed(t, cover); got != nil || e != api.ErrNone {
					t.Error(open, cover, got, e)
				}
			}
		}
	}
}

// TestOpenOfEachColumn tries a box in each column: only those on deck upon the cover are in the way, also if it is open already.
func TestOpenOfEachColumn(t *testing.T) {
	h := mixed()
	for column := range h.s.Columns {
		h.s.Columns[column].Height = 0
		h.l = []api.Stowed{at(4, column, 0, 0)}
		for _, open := range h.opens() {
			h.open = open
			for cover := range h.s.Covers {
				var e api.Errno
				if cover == 2 && (column == 2 || column == 3) || cover == 0 && column == 7 {
					e = stow.ErrUpon
				}
				if got, got2 := h.opened(t, cover); got2 != e || (len(got) == 0) != (e != api.OK) {
					t.Error(column, open, cover, got, got2)
				}
				if _, e := h.closed(t, cover); e != api.OK {
					t.Error(column, open, cover, e)
				}
			}
		}
	}
}

// P9.7

// taken takes boxes out of a state as long as one of them can be taken, with each cover opened as soon as that can be done, and returns those that are left.
func (h harbour) taken(t *testing.T, ids []int) []int {
	left := slices.Clone(ids)
	for again := true; again; {
		again = false
		for cover := range h.s.Covers {
			if open, e := stow.Open(h.s, h.boxes, h.l, h.open, cover); e == api.OK {
				h.open = open
			}
		}
		for i, id := range left {
			if l, e := stow.Take(h.s, h.boxes, h.l, h.open, id); e == api.OK {
				h.l, left, again = l, slices.Delete(left, i, i+1), true
				break
			}
		}
		if !stow.Right(h.s, h.boxes, h.l) {
			t.Error("what was taken leaves a state that is not right", h.l)
		}
	}
	return left
}

func TestReachIsWhatMustBeTaken(t *testing.T) {
	r := rand.New(rand.NewSource(6))
	for range 200 {
		h := mixed()
		h.l = h.random(r, 15)
		if len(h.l) == 0 {
			continue
		}
		ids := []int{h.l[r.Intn(len(h.l))].Box, h.l[r.Intn(len(h.l))].Box}
		reached, _ := stow.Reach(h.s, h.boxes, h.l, ids)
		if left := h.taken(t, reached); len(left) > 0 {
			t.Error(h.l, ids, left, "are not taken")
		}
		for i, id := range reached {
			if slices.Contains(ids, id) {
				continue
			}
			left := h.taken(t, slices.Delete(slices.Clone(reached), i, i+1))
			if !slices.ContainsFunc(ids, func(id int) bool { return slices.Contains(left, id) }) {
				t.Error(h.l, ids, "are taken without", id)
			}
		}
	}
}

func TestPutAndTakeAgain(t *testing.T) {
	r := rand.New(rand.NewSource(7))
	for range 100 {
		h := mixed()
		h.l = h.random(r, r.Intn(15))
		opens := h.opens()
		h.open = opens[r.Intn(len(opens))]
		slots := around(h.s)
		for range 100 {
			x := api.Stowed{Box: h.boxes[r.Intn(len(h.boxes))].ID, Slot: slots[r.Intn(len(slots))]}
			l, e := stow.Put(h.s, h.boxes, h.l, h.open, x)
			if e != api.OK {
				continue
			}
			more := h
			more.l = l
			if !more.right(t) {
				t.Error("what was put makes a state that is not right", h.l, x)
			}
			if again, e := more.take(t, x.Box); !slices.Equal(again, h.l) || e != api.OK {
				t.Error(h.l, x, again, e)
			}
			for _, y := range h.l {
				few, _ := stow.Reach(h.s, h.boxes, h.l, []int{y.Box})
				many, _ := stow.Reach(h.s, h.boxes, l, []int{y.Box})
				if slices.ContainsFunc(few, func(id int) bool { return !slices.Contains(many, id) }) {
					t.Error(h.l, x, y, "with more boxes less is reached for", few, many)
				}
			}
		}
	}
}

func TestMovesInTheLargestShip(t *testing.T) {
	for _, size := range []uint8{20, 40} {
		h := largest(size)
		last := h.l[1999]
		if got, e := h.take(t, 1999); !slices.Equal(got, h.l[:1999]) || e != api.OK {
			t.Error(len(got), e)
		}
		full := h.l
		h.l = h.l[:1999]
		if got, e := h.put(t, last); !slices.Equal(got, full) || e != api.OK {
			t.Error(len(got), e)
		}
		// Ten high boxes are 28960 high, the others are lower; five of them in each half are too high already without the last one.
		h.s.Columns[199].Height = map[uint8]int{20: 14479, 40: 28959}[size]
		if got, e := h.put(t, last); got != nil || e != map[uint8]api.Errno{20: api.ErrArg, 40: stow.ErrHigh}[size] {
			t.Error(len(got), e)
		}
	}
}
