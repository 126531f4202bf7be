package ship

import (
	"slices"

	"twistlock/api"
)

// Find returns the index of the first column of a bay and a row, on deck or in the hold.
func Find(s api.Ship, bay, row int, deck bool) (int, bool) {
	at := slices.IndexFunc(s.Columns, func(c api.Column) bool {
		return c.Bay == bay && c.Row == row && c.Deck == deck
	})
	if at < 0 {
		return 0, false
	}
	return at, true
}

// element returns the element of a list with an index, if there is one.
func element[T any](l []T, at int) (T, bool) {
	if at < 0 || at >= len(l) {
		var none T
		return none, false
	}
	return l[at], true
}

// indices returns the indices of the elements of a list that are chosen.
func indices[T any](l []T, chosen func(T) bool) []int {
	var found []int
	for i, x := range l {
		if chosen(x) {
			found = append(found, i)
		}
	}
	return found
}

// belongs reports whether a column is under a cover, if it is in the hold, or upon it, if it is on deck.
func belongs(c api.Column, cover api.Cover) bool {
	return cover.Bay == c.Bay && slices.Contains(cover.Rows, c.Row)
}

// CoverOf returns the index of the first cover that a column is under, or upon; -1 if there is none.
func CoverOf(s api.Ship, column int) int {
	c, ok := element(s.Columns, column)
	if !ok {
		return -1
	}
	return slices.IndexFunc(s.Covers, func(cover api.Cover) bool { return belongs(c, cover) })
}

// Under returns the indices of the columns under a cover.
func Under(s api.Ship, cover int) []int { return columnsOf(s, cover, false) }

// Upon returns the indices of the columns upon a cover.
func Upon(s api.Ship, cover int) []int { return columnsOf(s, cover, true) }

// columnsOf returns the indices of the columns upon, or under, a cover.
func columnsOf(s api.Ship, cover int, deck bool) []int {
	over, ok := element(s.Covers, cover)
	if !ok {
		return nil
	}
	return indices(s.Columns, func(c api.Column) bool { return c.Deck == deck && belongs(c, over) })
}

// Beside returns the indices of the columns beside a column.
func Beside(s api.Ship, column int) []int {
	c, ok := element(s.Columns, column)
	if !ok {
		return nil
	}
	return indices(s.Columns, func(other api.Column) bool {
		return other.Bay == c.Bay && other.Deck == c.Deck && difference(other.Row, c.Row) == 1
	})
}

// difference returns by how much the greater one of two numbers is greater. What wraps round is less than 0, so that it is never taken for 1.
func difference(a, b int) int {
	return max(a, b) - min(a, b)
}

// Apart returns by how many bays two columns are apart; there is no result without both, or if a bay is not right.
func Apart(s api.Ship, a, b int) (int, bool) {
	bay, ok := bayOf(s, a)
	other, otherOK := bayOf(s, b)
	if !ok || !otherOK {
		return 0, false
	}
	return difference(bay, other), true
}

// bayOf returns the bay of a column, if there is such a column and its bay is right.
func bayOf(s api.Ship, column int) (int, bool) {
	c, ok := element(s.Columns, column)
	return c.Bay, ok && c.Bay >= 0 && c.Bay <= maxBay
}

// Tallest returns the greatest number of tiers of a column; 0 if there is no column.
func Tallest(s api.Ship) int {
	if len(s.Columns) == 0 {
		return 0
	}
	tallest := s.Columns[0].Tiers
	for _, c := range s.Columns {
		tallest = max(tallest, c.Tiers)
	}
	return tallest
}

// Places returns how many boxes of 20 feet the tiers of all columns hold.
func Places(s api.Ship) int {
	tiers := 0
	for _, c := range s.Columns {
		tiers += c.Tiers
	}
	return 2 * tiers
}
