package stow

import (
	"cmp"
	"slices"

	"twistlock/api"
	"twistlock/ship"
	"twistlock/slot"
)

// covered is a loaded ship with some open covers.
type covered struct {
	loaded
	open []int
}

// uncover returns a ship with a state and open covers, and whether these are right.
func uncover(s api.Ship, boxes []api.Box, l []api.Stowed, open []int) (covered, bool) {
	d, ok := load(s, boxes, l)
	if !ok || !opens(s, open) {
		return covered{}, false
	}
	return covered{d, open}, true
}

// opens reports whether a list is one of open covers of a ship.
func opens(s api.Ship, open []int) bool {
	last := -1
	for _, cover := range open {
		if cover <= last || cover >= len(s.Covers) {
			return false
		}
		last = cover
	}
	return true
}

// isOpen reports whether a cover is open.
func (d covered) isOpen(cover int) bool { return slices.Contains(d.open, cover) }

// shut reports whether a column is under a cover that is closed.
func (d covered) shut(column int) bool {
	cover := d.lid(column)
	return cover >= 0 && !d.isOpen(cover)
}

// Free reports whether a box can be taken, with some covers open.
func Free(s api.Ship, boxes []api.Box, l []api.Stowed, open []int, id int) api.Errno {
	_, e := free(s, boxes, l, open, id)
	return e
}

// free returns where a box that can be taken is in a state.
func free(s api.Ship, boxes []api.Box, l []api.Stowed, open []int, id int) (int, api.Errno) {
	d, ok := uncover(s, boxes, l, open)
	if !ok {
		return 0, api.ErrArg
	}
	at, ok := place(l, id)
	if !ok {
		return 0, api.ErrNone
	}
	x := l[at].Slot
	if len(over(d.piles[x.Column].l, x)) > 0 {
		return 0, ErrBuried
	}
	if d.shut(x.Column) {
		return 0, ErrShut
	}
	return at, api.OK
}

// Take takes a box out of a state.
func Take(s api.Ship, boxes []api.Box, l []api.Stowed, open []int, id int) ([]api.Stowed, api.Errno) {
	at, e := free(s, boxes, l, open, id)
	if e != api.OK {
		return nil, e
	}
	return without(l, at), api.OK
}

// Put puts a box into a slot.
func Put(s api.Ship, boxes []api.Box, l []api.Stowed, open []int, x api.Stowed) ([]api.Stowed, api.Errno) {
	d, ok := uncover(s, boxes, l, open)
	if !ok {
		return nil, api.ErrArg
	}
	b, _ := Find(boxes, x.Box)
	p := put{d, b, x}
	for _, need := range [...]func() api.Errno{p.sized, p.ashore, p.slotted, p.passing, p.clear, p.held, p.low} {
		if e := need(); e != api.OK {
			return nil, e
		}
	}
	return with(l, x, byBox), api.OK
}

// put is a box that is to be put into a slot; a zero box if there is none.
type put struct {
	covered
	box api.Box
	x   api.Stowed
}

// pile returns what stands in the column of the slot.
func (p put) pile() pile { return p.piles[p.x.Slot.Column] }

// sized requires a box of a size that has slots.
func (p put) sized() api.Errno {
	return unless(p.box.Size == 20 || p.box.Size == 40, api.ErrNone)
}

// ashore requires that the box is not on board.
func (p put) ashore() api.Errno {
	_, aboard := place(p.state, p.x.Box)
	return unless(!aboard, ErrTwice)
}

// slotted requires that the ship has the slot; what is required after that relies on it.
func (p put) slotted() api.Errno {
	return unless(slot.Right(p.ship, p.x.Slot, p.box.Size), ErrSlot)
}

// passing requires an open cover above a hold, and a closed one below the deck.
func (p put) passing() api.Errno {
	column := p.x.Slot.Column
	bare := p.ship.Columns[column].Deck && p.isOpen(ship.CoverOf(p.ship, column))
	return unless(!bare && !p.shut(column), ErrShut)
}

// clear requires that no other box is in the way.
func (p put) clear() api.Errno {
	return unless(!meets(p.pile().slots(), p.x.Slot), ErrTaken)
}

// held requires that others hold the box.
func (p put) held() api.Errno {
	return unless(slot.Held(p.x.Slot, p.pile().slots()), ErrHeld)
}

// low requires that the column does not become too high.
func (p put) low() api.Errno {
	column := p.pile()
	column.boxes, column.l = append(column.boxes, p.box), append(column.l, p.x)
	return unless(!column.above(p.ship.Columns[p.x.Slot.Column].Height), ErrHigh)
}

// unless returns an error if something is not so.
func unless(so bool, e api.Errno) api.Errno {
	if so {
		return api.OK
	}
	return e
}

// with returns a new list, in order, that has one element more than another one.
func with[T any](l []T, x T, compare func(a, b T) int) []T {
	at, _ := slices.BinarySearchFunc(l, x, compare)
	return slices.Insert(slices.Clone(l), at, x)
}

// without returns a new list that lacks one element of another one.
func without[T any](l []T, at int) []T {
	return slices.Delete(slices.Clone(l), at, at+1)
}

// Open opens a cover.
func Open(s api.Ship, boxes []api.Box, l []api.Stowed, open []int, cover int) ([]int, api.Errno) {
	d, ok := uncover(s, boxes, l, open)
	if !ok {
		return nil, api.ErrArg
	}
	if cover < 0 || cover >= len(s.Covers) {
		return nil, api.ErrNone
	}
	if len(d.upon(cover)) > 0 {
		return nil, ErrUpon
	}
	if d.isOpen(cover) {
		return slices.Clone(open), api.OK
	}
	return with(open, cover, cmp.Compare[int]), api.OK
}

// Close closes a cover.
func Close(s api.Ship, boxes []api.Box, l []api.Stowed, open []int, cover int) ([]int, api.Errno) {
	if _, ok := uncover(s, boxes, l, open); !ok {
		return nil, api.ErrArg
	}
	if cover < 0 || cover >= len(s.Covers) {
		return nil, api.ErrNone
	}
	if at := slices.Index(open, cover); at >= 0 {
		return without(open, at), api.OK
	}
	return slices.Clone(open), api.OK
}
