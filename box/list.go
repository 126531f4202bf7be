package box

import (
	"cmp"
	"slices"

	"twistlock/api"
)

// Sum is what boxes add up to.
type Sum struct{ Boxes, Halves, Kilos, Reefers, Dangerous int }

// Valid returns the index of the box for which a list is not right, or -1 if it is for none.
func Valid(l []api.Box) (int, api.Errno) {
	if len(l) > api.MaxBoxes {
		return -1, api.ErrMany
	}
	seen := map[string]bool{}
	for i, b := range l {
		if !Right(b) || seen[b.Number] || i > 0 && b.ID <= l[i-1].ID {
			return i, ErrBox
		}
		// Any number of boxes may have none.
		if b.Number != "" {
			seen[b.Number] = true
		}
	}
	return -1, api.OK
}

// Find returns the first box of a list with an ID.
func Find(l []api.Box, id int) (api.Box, bool) {
	for _, b := range l {
		if b.ID == id {
			return b, true
		}
	}
	return api.Box{}, false
}

// Numbered returns the ID of the first box of a list with a number.
func Numbered(l []api.Box, number string) (int, bool) {
	if number == "" {
		return 0, false
	}
	for _, b := range l {
		if b.Number == number {
			return b.ID, true
		}
	}
	return 0, false
}

// tally is what the boxes so far add up to. The method is its own, so that Sum has no other parts than those of the chapter.
type tally struct{ Sum }

// add counts one box more.
func (t *tally) add(b api.Box) {
	t.Boxes++
	t.Halves += Halves(b)
	t.Kilos += b.Kilos
	if b.Reefer {
		t.Reefers++
	}
	if b.Class != 0 {
		t.Dangerous++
	}
}

// Total returns what the right boxes of a list add up to.
func Total(l []api.Box) Sum {
	var t tally
	for _, b := range l {
		if Right(b) {
			t.add(b)
		}
	}
	return t.Sum
}

// Order returns the boxes of a list in the order in which they come before one another.
func Order(l []api.Box) []api.Box {
	ordered := slices.Clone(l)
	slices.SortStableFunc(ordered, compare)
	return ordered
}

// compare is less than 0 if a box comes before another one, and greater if the other one comes before it.
func compare(b, other api.Box) int {
	return cmp.Or(
		cmp.Compare(other.Discharge, b.Discharge),
		cmp.Compare(other.Kilos, b.Kilos),
		cmp.Compare(b.ID, other.ID),
	)
}
