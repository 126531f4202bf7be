package box_test

import (
	"math"
	"strings"
	"testing"

	"twistlock/api"
	"twistlock/box"
	"twistlock/iso"
)

// example is the box of the chapter's examples.
func example() api.Box {
	return api.Box{ID: 7, Number: "CSQU3054383", Size: 40, High: true, Kilos: 30000, Load: 1, Discharge: 3}
}

// change is what makes another box of a box.
type change func(b *api.Box)

// changed returns a box after some changes.
func changed(b api.Box, changes ...change) api.Box {
	for _, c := range changes {
		c(&b)
	}
	return b
}

func id(n int) change        { return func(b *api.Box) { b.ID = n } }
func number(s string) change { return func(b *api.Box) { b.Number = s } }
func size(n uint8) change    { return func(b *api.Box) { b.Size = n } }
func high(h bool) change     { return func(b *api.Box) { b.High = h } }
func kilos(n int) change     { return func(b *api.Box) { b.Kilos = n } }
func class(n uint8) change   { return func(b *api.Box) { b.Class = n } }
func reefer(r bool) change   { return func(b *api.Box) { b.Reefer = r } }
func calls(load, discharge int) change {
	return func(b *api.Box) { b.Load, b.Discharge = load, discharge }
}

// rightNumbers are right numbers; AAAJ0000000 has the remainder 10.
var rightNumbers = []string{"CSQU3054383", "AAAU0000007", "AAAJ0000000", "ZZZZ9999996"}

// wrongNumbers are strings that are no right numbers, nor empty.
var wrongNumbers = []string{
	"CSQU3054384", "CSQU3054380", "SCQU3054383", "AAAJ0000001", "CSQX3054383", "csqu3054383", "CSQu3054383", "CSQU305438", "CSQU30543833", "CSQU 305438 3", "CSQU-305438-3",
	" CSQU3054383", "CSQU3054383 ", "CSQU3054383\n", "CSQU3054383\x00", " ", "-", "\x00", "0", "CSQU", "\xff", "\u0421SQU305438", strings.Repeat("CSQU3054383", 2), strings.Repeat("0", 100000),
}

// P6.1

func TestRight(t *testing.T) {
	for i, b := range []api.Box{
		example(),
		changed(example(), reefer(true)),
		changed(example(), high(false)),
		changed(example(), high(false), size(20)),
		changed(example(), number("")),
		changed(example(), id(1)),
		changed(example(), id(999999)),
		changed(example(), kilos(1)),
		changed(example(), kilos(32001)),
		changed(example(), kilos(40000)),
		changed(example(), high(false), kilos(40000)),
		changed(example(), high(false), size(20), kilos(1)),
		changed(example(), high(false), size(20), kilos(32000)),
		changed(example(), calls(0, 1)),
		changed(example(), calls(0, 19)),
		changed(example(), calls(18, 19)),
		changed(example(), class(1)),
		changed(example(), class(9), reefer(true)),
	} {
		if !box.Right(b) {
			t.Error("not right:", i, b)
		}
	}
}

// wrongChanges returns what makes boxes of 20 or of 40 feet wrong, each for one reason.
func wrongChanges() []change {
	l := []change{
		id(0), id(-1), id(1000000), id(math.MinInt), id(math.MaxInt), id(1<<32 + 7),
		size(0), size(1), size(19), size(21), size(30), size(39), size(41), size(45), size(53), size(255),
		kilos(0), kilos(-1), kilos(40001), kilos(math.MinInt), kilos(math.MaxInt), kilos(1<<32 + 7),
		calls(-1, 3), calls(math.MinInt, 3), calls(3, 3), calls(3, 1), calls(0, 0), calls(0, -1), calls(1, 20), calls(19, 20), calls(1, math.MaxInt), calls(0, 1<<32+7), calls(20, 21), calls(-2, -1), calls(math.MaxInt, math.MinInt),
		class(10), class(11), class(128), class(255),
	}
	for _, s := range wrongNumbers {
		l = append(l, number(s))
	}
	return l
}

func TestRightOfWrongBoxes(t *testing.T) {
	wrong := []api.Box{
		{},
		{ID: 7},
		changed(example(), size(20)),
		changed(example(), size(20), kilos(32000)),
		changed(example(), size(20), high(false), kilos(32001)),
		changed(example(), size(20), high(false), kilos(40000)),
		changed(example(), high(false), kilos(40001)),
	}
	for _, c := range wrongChanges() {
		for _, number := range []change{func(b *api.Box) {}, number("")} {
			wrong = append(wrong, changed(example(), number, c), changed(example(), number, high(false), c), changed(example(), number, high(false), size(20), c))
		}
	}
	for i, b := range wrong {
		if box.Right(b) {
			t.Error("right:", i)
		}
	}
}

// reasons returns why a box is not right.
func reasons(b api.Box) []string {
	var l []string
	because := func(wrong bool, reason string) {
		if wrong {
			l = append(l, reason)
		}
	}
	most := map[uint8]int{20: 32000, 40: 40000}
	because(b.ID <= 0 || b.ID > 999999, "ID")
	because(len(b.Number) > 0 && !iso.Right(b.Number), "number")
	because(most[b.Size] == 0, "size")
	because(b.High && b.Size != 40, "high")
	because(b.Kilos <= 0 || b.Kilos > most[b.Size], "kilos")
	because(b.Load < 0, "load")
	because(b.Discharge <= b.Load || b.Discharge > 19, "discharge")
	because(b.Class > 9, "class")
	return l
}

// everyBox calls f with boxes that have each a value at, or beside, the limit of each field.
func everyBox(f func(b api.Box)) {
	for _, number := range []string{"", "CSQU3054383", "CSQU3054384"} {
		for _, id := range []int{-1, 0, 1, 999999, 1000000} {
			for _, size := range []uint8{0, 19, 20, 40, 45} {
				for _, kilos := range []int{-1, 0, 1, 32000, 32001, 40000, 40001} {
					for _, calls := range [][2]int{{-1, 1}, {0, 0}, {0, 1}, {1, 0}, {0, 19}, {0, 20}, {18, 19}, {19, 19}, {19, 20}} {
						for _, class := range []uint8{0, 9, 10} {
							for flags := range 4 {
								f(api.Box{ID: id, Number: number, Size: size, High: flags&1 > 0, Kilos: kilos, Load: calls[0], Discharge: calls[1], Class: class, Reefer: flags&2 > 0})
							}
						}
					}
				}
			}
		}
	}
}

func TestRightOfEveryBox(t *testing.T) {
	right, once := 0, map[string]int{}
	everyBox(func(b api.Box) {
		why := reasons(b)
		if box.Right(b) != (len(why) == 0) {
			t.Error(b, why)
		}
		if len(why) == 0 {
			right++
		}
		if len(why) == 1 {
			once[why[0]]++
		}
	})
	// A wrong size is wrong for the kilos, too.
	if right == 0 || len(once) != 7 {
		t.Error("not every rule is tried alone", right, once)
	}
}

func TestRightOfAnySizeAndClass(t *testing.T) {
	for n := range 256 {
		ofSize := changed(example(), size(uint8(n)))
		if box.Right(ofSize) != (n == 40) || box.Right(changed(ofSize, high(false))) != (n == 20 || n == 40) {
			t.Error("size", n)
		}
		if box.Right(changed(example(), class(uint8(n)))) != (n < 10) {
			t.Error("class", n)
		}
	}
}

func TestRightOfAnyCalls(t *testing.T) {
	for load := -3; load < 24; load++ {
		for discharge := -3; discharge < 24; discharge++ {
			want := 0 <= load && load < discharge && discharge < 20
			if box.Right(changed(example(), calls(load, discharge))) != want {
				t.Error(load, discharge, !want)
			}
		}
	}
}

func TestRightOfAnyByteOfANumber(t *testing.T) {
	for _, right := range rightNumbers {
		for at := range right {
			for to := range 256 {
				s := right[:at] + string([]byte{byte(to)}) + right[at+1:]
				if box.Right(changed(example(), number(s))) != iso.Right(s) {
					t.Errorf("%q %t", s, iso.Right(s))
				}
			}
		}
	}
}

func TestConstants(t *testing.T) {
	if box.MaxKilos20 != 32000 || box.MaxKilos40 != 40000 || box.ErrBox != 60 {
		t.Error(box.MaxKilos20, box.MaxKilos40, box.ErrBox)
	}
}

func TestExample(t *testing.T) {
	b := example()
	plugged, e := box.Code(changed(b, reefer(true)))
	if plugged != "45R1" || e != api.OK {
		t.Error(plugged, e)
	}
	code, e := box.Code(b)
	if !box.Right(b) || box.Height(b) != 2896 || box.Halves(b) != 2 || code != "45G1" || e != api.OK {
		t.Error(box.Right(b), box.Height(b), box.Halves(b), code, e)
	}
	for call, want := range []bool{false, true, true, false} {
		if box.Aboard(b, call) != want {
			t.Error(call, !want)
		}
	}
	low := changed(b, size(20))
	if code, e := box.Code(low); code != "" || e != box.ErrBox || box.Right(low) {
		t.Error(code, e)
	}
	for _, c := range []change{kilos(40001), calls(1, 1), calls(1, 20), class(10), number("CSQU3054384")} {
		if wrong := changed(b, c); box.Right(wrong) {
			t.Error(wrong)
		}
	}
}

// odd returns boxes with a size, a height and a plug, of which all but the first are not right, whatever these are.
func odd(size uint8, high, reefer bool) []api.Box {
	b := api.Box{ID: 7, Size: size, High: high, Kilos: 9, Load: 1, Discharge: 3, Reefer: reefer}
	l := []api.Box{b, {Size: size, High: high, Reefer: reefer}}
	for _, c := range []change{id(-1), number("?"), kilos(math.MaxInt), kilos(math.MinInt), calls(9, 3), calls(-1, 99), class(255)} {
		l = append(l, changed(b, c))
	}
	return l
}

func TestMeasuresOfAnyBox(t *testing.T) {
	codes := map[[3]int]string{{20, 0, 0}: "22G1", {20, 0, 1}: "22R1", {40, 0, 0}: "42G1", {40, 0, 1}: "42R1", {40, 1, 0}: "45G1", {40, 1, 1}: "45R1"}
	for size := range 256 {
		for isHigh, height := range []int{2591, 2896} {
			for isReefer := range 2 {
				code, known := codes[[3]int{size, isHigh, isReefer}]
				halves := map[int]int{20: 1, 40: 2}[size]
				for _, b := range odd(uint8(size), isHigh == 1, isReefer == 1) {
					if box.Height(b) != height || box.Halves(b) != halves {
						t.Error(b, box.Height(b), box.Halves(b))
					}
					if got, e := box.Code(b); got != code || (e == api.OK) != known || !known && e != box.ErrBox {
						t.Error(b, got, e)
					}
				}
			}
		}
	}
}

func TestAboardOfAnyCalls(t *testing.T) {
	edges := []int{math.MinInt, math.MinInt + 1, math.MaxInt - 1, math.MaxInt, 1 << 32}
	for n := -3; n < 24; n++ {
		edges = append(edges, n)
	}
	for _, load := range edges {
		for _, discharge := range edges {
			b := api.Box{Load: load, Discharge: discharge}
			for _, call := range edges {
				want := !(call < load) && !(call > discharge) && call != discharge
				if box.Aboard(b, call) != want {
					t.Error(load, discharge, call, !want)
				}
			}
		}
	}
}

// P6.5

func TestTheCodeOfARightBoxGivesItsKind(t *testing.T) {
	everyBox(func(b api.Box) {
		code, e := box.Code(b)
		if e != api.OK {
			if box.Right(b) {
				t.Error(b, e)
			}
			return
		}
		kind, e := iso.Size(code)
		if e != api.OK || kind != (iso.Kind{Size: b.Size, High: b.High, Reefer: b.Reefer}) {
			t.Error(b, code, kind, e)
		}
	})
}

func TestARightBoxIsOnBoardFromLoadToDischarge(t *testing.T) {
	for load := range 20 {
		for discharge := load + 1; discharge < 20; discharge++ {
			b := changed(example(), calls(load, discharge))
			var after []int
			for call := -5; call < 30; call++ {
				if box.Aboard(b, call) {
					after = append(after, call)
				}
			}
			if !box.Right(b) || len(after) != discharge-load || after[0] != load || after[len(after)-1] != discharge-1 {
				t.Error(load, discharge, after)
			}
		}
	}
}
