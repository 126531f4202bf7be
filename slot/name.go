package slot

import (
	"slices"

	"twistlock/api"
	"twistlock/ship"
)

// ErrName says that a string is no name of a slot.
const ErrName api.Errno = 80

// onDeck is what is added to the number of a tier on deck.
const onDeck = 80

// length is how many digits a name has: three for the bay and the half, two for the row, two for the tier.
const length = 7

// codes are added to 4 times the bay, one for each half.
var codes = [...]int{api.Whole: 2, api.Fore: 1, api.Aft: 3}

// place is what a name says of a slot.
type place struct {
	bay, row, tier int
	deck           bool
	half           uint8
}

// Name returns the name of a slot.
func Name(s api.Ship, x api.Slot) (string, api.Errno) {
	if !ship.Right(s) {
		return "", api.ErrArg
	}
	if !Right(s, x, short) && !Right(s, x, long) {
		return "", api.ErrNone
	}
	c := s.Columns[x.Column]
	return text(place{bay: c.Bay, row: c.Row, tier: x.Tier, deck: c.Deck, half: x.Half}), api.OK
}

// Find returns the slot of a name.
func Find(s api.Ship, name string) (api.Slot, api.Errno) {
	if !ship.Right(s) {
		return api.Slot{}, api.ErrArg
	}
	p, ok := placeOf(name)
	if !ok {
		return api.Slot{}, ErrName
	}
	column, ok := ship.Find(s, p.bay, p.row, p.deck)
	if !ok || !exists(s, column, p.tier) {
		return api.Slot{}, api.ErrNone
	}
	return api.Slot{Column: column, Tier: p.tier, Half: p.half}, api.OK
}

// text returns the name of a place.
func text(p place) string {
	n := (4*p.bay+codes[p.half])*10000 + p.row*100 + tierNumber(p.tier, p.deck)
	var digits [length]byte
	for i := range slices.Backward(digits[:]) {
		digits[i] = '0' + byte(n%10)
		n /= 10
	}
	return string(digits[:])
}

// placeOf returns the place of a name, if it is one.
func placeOf(name string) (place, bool) {
	digits, ok := digitsOf(name)
	if !ok {
		return place{}, false
	}
	n := 0
	for _, digit := range digits {
		n = 10*n + digit
	}
	half, halfOK := halfOf(n / 10000 % 4)
	tier, deck, tierOK := tierOf(n % 100)
	return place{bay: n / 10000 / 4, row: n / 100 % 100, tier: tier, deck: deck, half: half}, halfOK && tierOK
}

// digitsOf returns the digits of a name, if it has just as many as it has to have.
func digitsOf(name string) ([length]int, bool) {
	var digits [length]int
	if len(name) != length {
		return digits, false
	}
	for i := range digits {
		if name[i] < '0' || name[i] > '9' {
			return digits, false
		}
		digits[i] = int(name[i] - '0')
	}
	return digits, true
}

// halfOf returns the half with a code, if there is one.
func halfOf(code int) (uint8, bool) {
	for half, c := range codes {
		if c == code {
			return uint8(half), true
		}
	}
	return 0, false
}

// tierNumber returns the last two digits of a name.
func tierNumber(tier int, deck bool) int {
	n := 2 * (tier + 1)
	if deck {
		n += onDeck
	}
	// Only the tenth tier on deck has more than two digits.
	return n % 100
}

// tierOf returns the tier with a number of two digits, and whether it is on deck, if there is one.
func tierOf(n int) (tier int, deck, ok bool) {
	if n == 0 {
		n = 100
	}
	if deck = n > onDeck; deck {
		n -= onDeck
	}
	return n/2 - 1, deck, n%2 == 0 && n >= 2 && n <= 2*api.MaxTiers
}
