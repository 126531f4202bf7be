package box_test

import (
	"math"
	"math/rand"
	"slices"
	"testing"

	"twistlock/api"
	"twistlock/box"
)

// plain returns a right box with an ID and a number.
func plain(n int, s string) api.Box {
	return api.Box{ID: n, Number: s, Size: 20, Kilos: 9, Load: 1, Discharge: 3}
}

// plains returns right boxes without numbers.
func plains(ids ...int) []api.Box {
	var l []api.Box
	for _, n := range ids {
		l = append(l, plain(n, ""))
	}
	return l
}

// numbered returns right boxes with the IDs from 1 on, and these numbers.
func numbered(numbers ...string) []api.Box {
	var l []api.Box
	for i, s := range numbers {
		l = append(l, plain(i+1, s))
	}
	return l
}

// rightList returns so many boxes, a right list if that is at most api.MaxBoxes.
func rightList(length int) []api.Box {
	return numbered(make([]string, length)...)
}

// spare returns a list with room for more boxes.
func spare(l []api.Box) []api.Box {
	return append(make([]api.Box, 0, len(l)+3), l...)
}

// untouched reports whether a list is as it was, and nothing is in its spare capacity.
func untouched(l, was []api.Box) bool {
	return slices.Equal(l, was) && !slices.ContainsFunc(l[len(l):cap(l)], func(b api.Box) bool { return b != api.Box{} })
}

// ids returns the IDs of boxes.
func ids(l []api.Box) []int {
	var n []int
	for _, b := range l {
		n = append(n, b.ID)
	}
	return n
}

// P6.2

func TestValid(t *testing.T) {
	for i, l := range [][]api.Box{
		nil, {}, {example()}, {plain(1, ""), example()},
		plains(1, 2, 3), plains(1, 5, 999999), plains(999998, 999999),
		numbered("", ""), numbered("CSQU3054383", "", "AAAU0000007", "", "AAAJ0000000"),
		rightList(1999), rightList(2000),
	} {
		if at, e := box.Valid(l); at != -1 || e != api.OK {
			t.Error(i, at, e)
		}
	}
}

func TestValidErrors(t *testing.T) {
	wrong := api.Box{}
	a, b, c := "CSQU3054383", "AAAU0000007", "CSQU3054384"
	for i, x := range []struct {
		l    []api.Box
		at   int
		want api.Errno
	}{
		{plains(7, 7), 1, box.ErrBox},
		{plains(7, 6), 1, box.ErrBox},
		{plains(1, 3, 2), 2, box.ErrBox},
		{plains(1, 5, 3, 4), 2, box.ErrBox},
		{plains(1, 2, 3, 1), 3, box.ErrBox},
		{plains(2, 2, 2), 1, box.ErrBox},
		{plains(0), 0, box.ErrBox},
		{plains(0, 1), 0, box.ErrBox},
		{plains(-2, -1), 0, box.ErrBox},
		{plains(999999, 1000000), 1, box.ErrBox},
		{numbered(a, a), 1, box.ErrBox},
		{numbered(a, "", b, a), 3, box.ErrBox},
		{numbered("", a, b, b, a), 3, box.ErrBox},
		{numbered(a, b, b, a), 2, box.ErrBox},
		{numbered(a, b, a, b), 2, box.ErrBox},
		{numbered(c), 0, box.ErrBox},
		{numbered(a, c), 1, box.ErrBox},
		{numbered(c, c), 0, box.ErrBox},
		{[]api.Box{wrong}, 0, box.ErrBox},
		{[]api.Box{plain(1, ""), wrong, plain(1, "")}, 1, box.ErrBox},
		{append(plains(2, 2), wrong), 1, box.ErrBox},
		{append(numbered(a, a), wrong), 1, box.ErrBox},
		{append(rightList(1999), wrong), 1999, box.ErrBox},
		{append(rightList(1999), plain(1999, "")), 1999, box.ErrBox},
		{append(append(numbered(a), rightList(1999)[1:]...), plain(2000, a)), 1999, box.ErrBox},
		{make([]api.Box, 2000), 0, box.ErrBox},
		{rightList(2001), -1, api.ErrMany},
		{append(rightList(2000), wrong), -1, api.ErrMany},
		{append([]api.Box{wrong}, rightList(2000)...), -1, api.ErrMany},
		{make([]api.Box, 2001), -1, api.ErrMany},
		{make([]api.Box, 100000), -1, api.ErrMany},
	} {
		if at, e := box.Valid(x.l); at != x.at || e != x.want {
			t.Error(i, at, e)
		}
	}
}

func TestValidOfABoxThatIsNotRight(t *testing.T) {
	for i, c := range wrongChanges() {
		for at := range 3 {
			l := plains(1, 2, 3)
			l[at] = changed(l[at], c)
			if got, e := box.Valid(l); got != at || e != box.ErrBox {
				t.Error(i, at, got, e)
			}
		}
	}
}

// firstWrong returns the index of the first box for which a list of up to api.MaxBoxes boxes is not right, or -1.
func firstWrong(l []api.Box) int {
	for i := range l {
		for j := range i {
			if l[i].Number != "" && l[i].Number == l[j].Number {
				return i
			}
		}
		if len(reasons(l[i])) > 0 || i > 0 && l[i].ID-l[i-1].ID < 1 {
			return i
		}
	}
	return -1
}

// someList returns boxes that are mostly a right list.
func someList(r *rand.Rand) []api.Box {
	var l []api.Box
	last := 0
	for range r.Intn(8) {
		last += r.Intn(7) - r.Intn(2)
		b := plain(last, "")
		if r.Intn(3) == 0 {
			b.Number = rightNumbers[r.Intn(len(rightNumbers))]
		}
		if r.Intn(20) == 0 {
			b.Kilos = 0
		}
		l = append(l, b)
	}
	return l
}

func TestValidOfAnyList(t *testing.T) {
	r := rand.New(rand.NewSource(1))
	met := map[int]int{}
	for range 20000 {
		l := spare(someList(r))
		was := slices.Clone(l)
		want, wrong := firstWrong(l), box.ErrBox
		if want < 0 {
			wrong = api.OK
		}
		met[want]++
		if at, e := box.Valid(l); at != want || e != wrong {
			t.Error(l, at, e, want)
		}
		if !untouched(l, was) {
			t.Error(was, "now", l)
		}
	}
	if len(met) != 8 {
		t.Error("not every index is met", met)
	}
}

// P6.3

func TestFind(t *testing.T) {
	first, second := plain(4, "CSQU3054383"), changed(plain(4, ""), size(40))
	low, none := api.Box{ID: math.MinInt, Kilos: 5}, api.Box{Number: "none"}
	l := []api.Box{plain(9, ""), first, second, low, plain(2, "AAAU0000007"), none, {}}
	for _, x := range []struct {
		id   int
		want api.Box
		ok   bool
	}{
		{9, plain(9, ""), true}, {4, first, true}, {2, plain(2, "AAAU0000007"), true}, {math.MinInt, low, true}, {0, none, true},
		{1, api.Box{}, false}, {3, api.Box{}, false}, {10, api.Box{}, false}, {-4, api.Box{}, false}, {math.MaxInt, api.Box{}, false}, {1<<32 + 4, api.Box{}, false},
	} {
		if b, ok := box.Find(l, x.id); b != x.want || ok != x.ok {
			t.Error(x.id, b, ok)
		}
	}
	for _, l := range [][]api.Box{nil, {}, {example()}} {
		if b, ok := box.Find(l, 0); b != (api.Box{}) || ok {
			t.Error(l, b, ok)
		}
	}
	long := rightList(5000)
	if b, ok := box.Find(long, 5000); b != long[4999] || !ok {
		t.Error(b, ok)
	}
}

func TestNumbered(t *testing.T) {
	l := []api.Box{plain(9, ""), plain(4, "CSQU3054383"), plain(1, "CSQU3054383"), {ID: -3, Number: "?"}, plain(2, "AAAU0000007"), {Number: "none"}, {ID: 5, Number: "\x00"}}
	for _, x := range []struct {
		number string
		want   int
		ok     bool
	}{
		{"CSQU3054383", 4, true}, {"AAAU0000007", 2, true}, {"?", -3, true}, {"none", 0, true}, {"\x00", 5, true},
		{"", 0, false}, {" ", 0, false}, {"csqu3054383", 0, false}, {"CSQU305438", 0, false}, {"CSQU3054383 ", 0, false}, {"CSQU 305438 3", 0, false}, {"AAAJ0000000", 0, false}, {"\x00\x00", 0, false},
	} {
		if id, ok := box.Numbered(l, x.number); id != x.want || ok != x.ok {
			t.Errorf("%q %d %t", x.number, id, ok)
		}
	}
	for _, s := range []string{"", "CSQU3054383"} {
		for _, l := range [][]api.Box{nil, {}, plains(1, 2)} {
			if id, ok := box.Numbered(l, s); id != 0 || ok {
				t.Errorf("%q %d %t", s, id, ok)
			}
		}
	}
	long := append(rightList(5000), plain(7000, "CSQU3054383"))
	if id, ok := box.Numbered(long, "CSQU3054383"); id != 7000 || !ok {
		t.Error(id, ok)
	}
}

// P6.4

func TestTotal(t *testing.T) {
	reefers := changed(plain(1, ""), reefer(true), kilos(32000))
	dangerous := changed(example(), class(9), kilos(40000))
	both := changed(example(), class(1), reefer(true), kilos(1))
	for i, x := range []struct {
		l    []api.Box
		want box.Sum
	}{
		{nil, box.Sum{}},
		{[]api.Box{}, box.Sum{}},
		{[]api.Box{{}}, box.Sum{}},
		{[]api.Box{example()}, box.Sum{Boxes: 1, Halves: 2, Kilos: 30000}},
		{[]api.Box{plain(1, "")}, box.Sum{Boxes: 1, Halves: 1, Kilos: 9}},
		{[]api.Box{reefers}, box.Sum{Boxes: 1, Halves: 1, Kilos: 32000, Reefers: 1}},
		{[]api.Box{dangerous}, box.Sum{Boxes: 1, Halves: 2, Kilos: 40000, Dangerous: 1}},
		{[]api.Box{both}, box.Sum{Boxes: 1, Halves: 2, Kilos: 1, Reefers: 1, Dangerous: 1}},
		{[]api.Box{dangerous, reefers, both, both, plain(1, "")}, box.Sum{Boxes: 5, Halves: 8, Kilos: 72011, Reefers: 3, Dangerous: 3}},
		{plains(3, 2, 2, 0), box.Sum{Boxes: 3, Halves: 3, Kilos: 27}},
		{slices.Repeat([]api.Box{dangerous}, 5000), box.Sum{Boxes: 5000, Halves: 10000, Kilos: 200000000, Dangerous: 5000}},
	} {
		if got := box.Total(x.l); got != x.want {
			t.Error(i, got)
		}
	}
}

func TestTotalLeavesOutBoxesThatAreNotRight(t *testing.T) {
	right := changed(example(), class(3), reefer(true), high(false))
	for i, c := range wrongChanges() {
		l := []api.Box{changed(right, c), right, changed(right, c)}
		if got := box.Total(l); got != (box.Sum{Boxes: 1, Halves: 2, Kilos: 30000, Reefers: 1, Dangerous: 1}) {
			t.Error(i, got)
		}
	}
}

// before reports whether a box comes before another one.
func before(b, other api.Box) bool {
	if b.Discharge != other.Discharge {
		return b.Discharge > other.Discharge
	}
	if b.Kilos != other.Kilos {
		return b.Kilos > other.Kilos
	}
	return b.ID < other.ID
}

// inserted returns boxes in order, each put behind all but those that it comes before.
func inserted(l []api.Box) []api.Box {
	var ordered []api.Box
	for _, b := range l {
		at := len(ordered)
		for at > 0 && before(b, ordered[at-1]) {
			at--
		}
		ordered = slices.Insert(ordered, at, b)
	}
	return ordered
}

func TestOrderOfTheExample(t *testing.T) {
	l := []api.Box{{ID: 1, Discharge: 2, Kilos: 9}, {ID: 2, Discharge: 3, Kilos: 5}, {ID: 3, Discharge: 3, Kilos: 8}, {ID: 4, Discharge: 3, Kilos: 8}}
	if got := ids(box.Order(l)); !slices.Equal(got, []int{3, 4, 2, 1}) {
		t.Error(got)
	}
	if got := box.Order(nil); len(got) != 0 {
		t.Error(got)
	}
	if got := box.Order([]api.Box{}); len(got) != 0 {
		t.Error(got)
	}
}

// someBox returns a box whose place in an order is often that of others; nothing else of it says where that is.
func someBox(r *rand.Rand, values []int) api.Box {
	of := func() int { return values[r.Intn(len(values))] }
	return api.Box{ID: of(), Number: rightNumbers[r.Intn(4)], Size: uint8(r.Intn(256)), High: r.Intn(2) == 0, Kilos: of(), Load: of(), Discharge: of(), Class: uint8(r.Intn(256)), Reefer: r.Intn(2) == 0}
}

func TestOrderOfAnyList(t *testing.T) {
	r := rand.New(rand.NewSource(2))
	for _, values := range [][]int{{7}, {0, 1}, {1, 2, 3, 4, 5}, {-1, 0, 1}, {math.MinInt, math.MinInt + 1, -1, 0, 1, math.MaxInt - 1, math.MaxInt}} {
		for range 1000 {
			var l []api.Box
			for range r.Intn(40) {
				l = append(l, someBox(r, values))
			}
			l = spare(l)
			was := slices.Clone(l)
			if got := box.Order(l); !slices.Equal(got, inserted(l)) {
				t.Error(was, got)
			}
			if !untouched(l, was) {
				t.Error(was, "now", l)
			}
		}
	}
}

func TestOrderOfManyBoxes(t *testing.T) {
	r := rand.New(rand.NewSource(3))
	var l []api.Box
	for range 3000 {
		l = append(l, someBox(r, []int{1, 2, 3}))
	}
	if got := box.Order(l); !slices.Equal(got, inserted(l)) {
		t.Error("not in order")
	}
}

func TestOrderSharesNoMemory(t *testing.T) {
	for length := range 5 {
		l := spare(rightList(length))
		was := slices.Clone(l)
		got := box.Order(l)
		_ = append(got, example())
		for i := range got {
			got[i] = example()
		}
		if !untouched(l, was) {
			t.Error(was, "now", l)
		}
		got = box.Order(was)
		for i := range was {
			was[i] = example()
		}
		if !slices.Equal(got, l) {
			t.Error(l, "now", got)
		}
	}
}

func TestOtherFunctionsChangeNoList(t *testing.T) {
	r := rand.New(rand.NewSource(4))
	for range 200 {
		l := spare(someList(r))
		was := slices.Clone(l)
		box.Find(l, 3)
		box.Numbered(l, rightNumbers[0])
		box.Total(l)
		if !untouched(l, was) {
			t.Error(was, "now", l)
		}
	}
}

// P6.5

// shuffled returns a list in some order.
func shuffled(r *rand.Rand, l []api.Box) []api.Box {
	mixed := slices.Clone(l)
	r.Shuffle(len(mixed), func(i, j int) { mixed[i], mixed[j] = mixed[j], mixed[i] })
	return mixed
}

// variedList returns boxes of all kinds, some of them not right.
func variedList(r *rand.Rand) []api.Box {
	l := someList(r)
	for i := range l {
		l[i].Size, l[i].High = []uint8{20, 40, 40, 45}[r.Intn(4)], r.Intn(3) == 0
		l[i].Class, l[i].Reefer, l[i].Kilos = uint8(r.Intn(12)), r.Intn(2) == 0, r.Intn(41000)
	}
	return l
}

func TestTotalsAddUp(t *testing.T) {
	r := rand.New(rand.NewSource(5))
	for range 2000 {
		one, other := variedList(r), variedList(r)
		a, b := box.Total(one), box.Total(other)
		want := box.Sum{Boxes: a.Boxes + b.Boxes, Halves: a.Halves + b.Halves, Kilos: a.Kilos + b.Kilos, Reefers: a.Reefers + b.Reefers, Dangerous: a.Dangerous + b.Dangerous}
		both := slices.Concat(one, other)
		if got := box.Total(both); got != want {
			t.Error(both, got, want)
		}
		if got := box.Total(shuffled(r, both)); got != want {
			t.Error(both, got, want, "shuffled")
		}
	}
}

// rightBoxes returns a right list whose boxes are often discharged at the same call, or have the same kilos.
func rightBoxes(r *rand.Rand) []api.Box {
	l := rightList(r.Intn(30))
	for i := range l {
		l[i].Discharge, l[i].Kilos = 2+r.Intn(3), 1+r.Intn(3)
	}
	return l
}

func TestARightListHasOneOrder(t *testing.T) {
	r := rand.New(rand.NewSource(6))
	for range 2000 {
		l := rightBoxes(r)
		if at, e := box.Valid(l); at != -1 || e != api.OK {
			t.Fatal(l, at, e)
		}
		want := box.Order(l)
		if got := box.Order(shuffled(r, l)); !slices.Equal(got, want) {
			t.Error(l, got, want)
		}
		if got := box.Order(want); !slices.Equal(got, want) {
			t.Error(l, got, want, "ordered again")
		}
		for i := 1; i < len(want); i++ {
			if !before(want[i-1], want[i]) {
				t.Error(want[i-1], "not before", want[i])
			}
		}
	}
}

func TestEachBeginningOfARightListIsRight(t *testing.T) {
	r := rand.New(rand.NewSource(7))
	for range 5000 {
		l := someList(r)
		right, e := box.Valid(l)
		if e == api.OK {
			right = len(l)
		}
		// What is before the first wrong box is a right list, and no longer beginning is one.
		for length := range len(l) + 1 {
			if at, e := box.Valid(l[:length]); (e == api.OK) != (length <= right) || e != api.OK && at != right {
				t.Error(l, length, at, e)
			}
		}
	}
}
