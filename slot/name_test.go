package slot_test

import (
	"fmt"
	"math"
	"slices"
	"strings"
	"testing"

	"twistlock/api"
	"twistlock/slot"
)

// endings are the last two digits of names: in the hold, and on deck.
var (
	hold = strings.Fields("02 04 06 08 10 12 14 16 18 20")
	deck = strings.Fields("82 84 86 88 90 92 94 96 98 00")
)

// called returns the name of a slot of a column.
func called(c api.Column, x api.Slot) string {
	endings := hold
	if c.Deck {
		endings = deck
	}
	return fmt.Sprintf("%03d%02d%s", 4*c.Bay+[]int{2, 1, 3}[x.Half], c.Row, endings[x.Tier])
}

// full returns a ship with columns of ten tiers, in the hold and on deck, of the rows of a bay.
func full(bay int) api.Ship {
	var s api.Ship
	for row := range 31 {
		s.Columns = append(s.Columns, api.Column{Bay: bay, Row: row, Deck: true, Tiers: 10}, api.Column{Bay: bay, Row: row, Tiers: 10})
	}
	return s
}

// named is a ship with columns in no order, of one to ten tiers.
func named() api.Ship {
	return api.Ship{
		Columns: []api.Column{
			{Bay: 39, Row: 30, Deck: true, Tiers: 10},
			{Bay: 0, Row: 1, Tiers: 2},
			{Bay: 12, Row: 7, Tiers: 9},
			{Bay: 39, Row: 30, Tiers: 10},
			{Bay: 12, Row: 7, Deck: true, Tiers: 9},
			{Bay: 0, Row: 0, Deck: true, Tiers: 1},
			{Bay: 25, Row: 10, Tiers: 1},
			{Bay: 10, Row: 25, Deck: true, Tiers: 10},
		},
		Covers: []api.Cover{{Bay: 12, Rows: []int{6, 7}}},
	}
}

// names returns all slots of a ship that is right, by their names.
func names(s api.Ship) map[string]api.Slot {
	all := map[string]api.Slot{}
	for column, c := range s.Columns {
		for tier := range c.Tiers {
			for half := range uint8(3) {
				x := at(column, tier, half)
				all[called(c, x)] = x
			}
		}
	}
	return all
}

// wrong returns ships whose columns or covers are not right, though they have slots.
func wrong() []api.Ship {
	var l []api.Ship
	spoil := func(f func(s *api.Ship)) {
		s := named()
		f(&s)
		l = append(l, s)
	}
	spoil(func(s *api.Ship) { s.Columns = nil })
	spoil(func(s *api.Ship) { s.Columns[7].Bay = 40 })
	spoil(func(s *api.Ship) { s.Columns[7].Bay = -1 })
	spoil(func(s *api.Ship) { s.Columns[7].Row = 31 })
	spoil(func(s *api.Ship) { s.Columns[7].Tiers = 11 })
	spoil(func(s *api.Ship) { s.Columns[7].Tiers = 0 })
	spoil(func(s *api.Ship) { s.Columns[7].Plugs = []int{3, 3} })
	spoil(func(s *api.Ship) { s.Columns[7] = s.Columns[1] })
	spoil(func(s *api.Ship) { s.Columns[0].Lash = -1 })
	spoil(func(s *api.Ship) { s.Covers[0].Rows = nil })
	spoil(func(s *api.Ship) { s.Covers = append(s.Covers, api.Cover{Bay: 12, Rows: []int{7}}) })
	return l
}

// P8.4

func TestNamesOfTheExamples(t *testing.T) {
	for name, x := range map[string]api.Slot{"0030102": at(1, 0, 2), "0060188": at(4, 3, 0), "0010002": at(0, 0, 1), "0020004": at(0, 1, 0), "0020086": at(2, 2, 0), "0010182": at(3, 0, 1), "0070184": at(4, 1, 2)} {
		if got, e := slot.Name(example(), x); got != name || e != api.OK {
			t.Error(x, got, e)
		}
		if got, e := slot.Find(example(), name); got != x || e != api.OK {
			t.Error(name, got, e)
		}
	}
	for name, want := range map[string]api.Errno{"0060190": api.ErrNone, "0060187": slot.ErrName} {
		if got, e := slot.Find(example(), name); got != at(0, 0, 0) || e != want {
			t.Error(name, got, e)
		}
	}
}

func TestNamesOfAllSlots(t *testing.T) {
	l := []api.Ship{example(), named()}
	for bay := range 40 {
		l = append(l, full(bay))
	}
	for i, was := range l {
		s := copied(was)
		all := names(was)
		if want := len(slot.All(s, 20)) + len(slot.All(s, 40)); len(all) != want {
			t.Error(i, "names of several slots", len(all), want)
		}
		for name, x := range all {
			if got, e := slot.Name(s, x); got != name || e != api.OK {
				t.Fatal(i, x, got, e)
			}
			if got, e := slot.Find(s, name); got != x || e != api.OK {
				t.Fatal(i, name, got, e)
			}
		}
		if !untouched(s, was) {
			t.Error(i, s)
		}
	}
}

func TestNameWithoutSuchASlot(t *testing.T) {
	s := named()
	numbers := append([]int{-11, -2, -1, 0, 1, 2, 7, 8, 9, 10, 11}, extremes...)
	for _, column := range numbers {
		for _, tier := range numbers {
			for half := range 256 {
				x := at(column, tier, uint8(half))
				want, expected := "", api.ErrNone
				if column >= 0 && column < len(s.Columns) && tier >= 0 && tier < s.Columns[column].Tiers && half < 3 {
					want, expected = called(s.Columns[column], x), api.OK
				}
				if got, e := slot.Name(s, x); got != want || e != expected {
					t.Error(x, got, e)
				}
			}
		}
	}
}

func TestNamesInAShipThatIsNotRight(t *testing.T) {
	for i, was := range wrong() {
		s := copied(was)
		for name, x := range names(named()) {
			if got, e := slot.Name(s, x); got != "" || e != api.ErrArg {
				t.Error(i, x, got, e)
			}
			if got, e := slot.Find(s, name); got != at(0, 0, 0) || e != api.ErrArg {
				t.Error(i, name, got, e)
			}
		}
		// This error comes before the others.
		for _, x := range []api.Slot{at(-1, 0, 0), at(8, 0, 0), at(1, 2, 0), at(1, 0, 3), at(math.MaxInt, math.MinInt, 255)} {
			if got, e := slot.Name(s, x); got != "" || e != api.ErrArg {
				t.Error(i, x, got, e)
			}
		}
		for _, name := range []string{"", "0020103", "0000102", "9999999", "002010a", "0020106", "1990182"} {
			if got, e := slot.Find(s, name); got != at(0, 0, 0) || e != api.ErrArg {
				t.Error(i, name, got, e)
			}
		}
		if !untouched(s, was) {
			t.Error(i, s)
		}
	}
}

func TestOtherPartsOfAShipAreNotLookedAt(t *testing.T) {
	s := named()
	s.Light = api.Light{Kilos: -1}
	s.Rows, s.Frames, s.Tanks = make([]api.Row, 1000), []api.Frame{{X: 9}, {X: 1}}, []api.Tank{{Kilos: -1}}
	s.Limits = api.Limits{Tolerance: -1}
	if name, e := slot.Name(s, at(1, 0, 0)); name != "0020102" || e != api.OK {
		t.Error(name, e)
	}
	if x, e := slot.Find(s, "0020102"); x != at(1, 0, 0) || e != api.OK {
		t.Error(x, e)
	}
}

func TestFindOfAnyDigits(t *testing.T) {
	s := named()
	all := names(s)
	found := 0
	for first := range 1000 {
		for _, row := range []int{0, 1, 7, 10, 25, 30, 31, 99} {
			for last := range 100 {
				name := fmt.Sprintf("%03d%02d%02d", first, row, last)
				ending := name[5:]
				x, known := all[name]
				want := api.ErrNone
				if known {
					want = api.OK
					found++
				} else if first%4 == 0 || !slices.Contains(hold, ending) && !slices.Contains(deck, ending) {
					want = slot.ErrName
				}
				if got, e := slot.Find(s, name); got != x || e != want {
					t.Fatal(name, got, e)
				}
			}
		}
	}
	if found != len(all) {
		t.Error("not every name is tried", found, len(all))
	}
}

func TestFindOfTheTenthTier(t *testing.T) {
	for _, x := range []struct {
		deck      bool
		tiers     int
		name      string
		tier      int
		wantError api.Errno
	}{
		{true, 10, "0020000", 9, api.OK}, {true, 9, "0020000", 0, api.ErrNone}, {false, 10, "0020000", 0, api.ErrNone},
		{false, 10, "0020020", 9, api.OK}, {false, 9, "0020020", 0, api.ErrNone}, {true, 10, "0020020", 0, api.ErrNone},
		{true, 9, "0020098", 8, api.OK}, {true, 8, "0020098", 0, api.ErrNone}, {true, 1, "0020082", 0, api.OK}, {false, 10, "0020082", 0, api.ErrNone},
		{false, 1, "0020002", 0, api.OK}, {false, 1, "0020004", 0, api.ErrNone}, {true, 10, "0020002", 0, api.ErrNone},
		{true, 10, "0020080", 0, slot.ErrName}, {false, 10, "0020080", 0, slot.ErrName}, {false, 10, "0020022", 0, slot.ErrName}, {true, 10, "0020022", 0, slot.ErrName},
		{true, 10, "0020001", 0, slot.ErrName}, {true, 10, "0020099", 0, slot.ErrName}, {true, 10, "0020081", 0, slot.ErrName}, {false, 10, "0020021", 0, slot.ErrName},
	} {
		s := api.Ship{Columns: []api.Column{{Deck: x.deck, Tiers: x.tiers}}}
		if got, e := slot.Find(s, x.name); got != at(0, x.tier, 0) || e != x.wantError {
			t.Error(x, got, e)
		}
	}
}

func TestFindOfWhatIsNoName(t *testing.T) {
	s := named()
	for name := range names(s) {
		for i := range name {
			for b := range 256 {
				if '0' <= b && b <= '9' {
					continue
				}
				other := name[:i] + string([]byte{byte(b)}) + name[i+1:]
				if x, e := slot.Find(s, other); x != at(0, 0, 0) || e != slot.ErrName {
					t.Errorf("%q %v %v", other, x, e)
				}
			}
			if x, e := slot.Find(s, name[:i]+name[i+1:]); x != at(0, 0, 0) || e != slot.ErrName {
				t.Error(name, "without a digit", i, x, e)
			}
		}
		for _, other := range []string{"", name[:1], name + "0", "0" + name, name + " ", " " + name, name + name, name + "\x00", "+" + name, name[:6], strings.Repeat(name, 1000)} {
			if x, e := slot.Find(s, other); x != at(0, 0, 0) || e != slot.ErrName {
				t.Error(other, x, e)
			}
		}
	}
	for _, other := range []string{"٠٠٢٠1", "٠٠٢٠١٠٢", "00201\u0660", "-020102", "+020102", "1e20102", "0x20102", "00_0102", "       ", "002 102", "00201.2"} {
		if x, e := slot.Find(s, other); x != at(0, 0, 0) || e != slot.ErrName {
			t.Error(other, x, e)
		}
	}
}

func TestNamesThatAreNoneComeBeforeSlotsThatAreNone(t *testing.T) {
	// Each is of a bay, a row or a tier that no ship has, and no name either.
	for _, name := range []string{"9960102", "9993003", "0023180", "0029924", "1609900", "1600099"} {
		if x, e := slot.Find(named(), name); x != at(0, 0, 0) || e != slot.ErrName {
			t.Error(name, x, e)
		}
	}
	for _, name := range []string{"9990102", "1613082", "1583182", "1589900", "0029902"} {
		if x, e := slot.Find(named(), name); x != at(0, 0, 0) || e != api.ErrNone {
			t.Error(name, x, e)
		}
	}
}

func TestConstant(t *testing.T) {
	if slot.ErrName != 80 {
		t.Error(slot.ErrName)
	}
}
