package lex_test

import (
	"math/rand"
	"slices"
	"strings"
	"testing"

	"twistlock/api"
	"twistlock/lex"
)

// unit is a byte of a text, or a ? with the byte that it releases.
type unit struct {
	at       int
	b        byte
	released bool
}

// units divides a text into its bytes, those that are released together with their ?.
func units(text string) []unit {
	var l []unit
	for at := 0; at < len(text); at++ {
		if text[at] == '?' && at+1 < len(text) && strings.Contains("'+:? ", text[at+1:at+2]) {
			l = append(l, unit{at, text[at+1], true})
			at++
			continue
		}
		l = append(l, unit{at, text[at], false})
	}
	return l
}

// part is what stands between two bytes that divide units, and where the one before it stands.
type part struct {
	after int
	l     []unit
}

// split divides units at a byte that is not released.
func split(l []unit, by byte) []part {
	parts := []part{{-1, nil}}
	for _, u := range l {
		if u.b == by && !u.released {
			parts = append(parts, part{u.at, nil})
			continue
		}
		last := &parts[len(parts)-1]
		last.l = append(last.l, u)
	}
	return parts
}

// fault is an error, and where it is; of two at the same position that of the lower rank counts.
type fault struct {
	at, rank int
	e        api.Errno
}

// reference reads texts by dividing them again and again, and gathers all faults, of which the first one counts.
type reference struct{ faults []fault }

func (x *reference) fault(at, rank int, e api.Errno) {
	x.faults = append(x.faults, fault{at, rank, e})
}

func (x *reference) component(l []unit) string {
	var b []byte
	for i, u := range l {
		if !u.released && (u.b < 32 || u.b > 126) {
			x.fault(u.at, 1, lex.ErrByte)
		}
		if !u.released && u.b == '?' {
			x.fault(u.at, 2, lex.ErrRelease)
		}
		if i >= 100 {
			x.fault(u.at, 3, api.ErrLong)
		}
		b = append(b, u.b)
	}
	return string(b)
}

func (x *reference) segment(l []unit) lex.Segment {
	var s lex.Segment
	for i, element := range split(l, '+') {
		if i >= 30 {
			x.fault(element.after, 0, api.ErrMany)
		}
		var components []string
		for j, component := range split(element.l, ':') {
			if j >= 10 {
				x.fault(component.after, 0, api.ErrMany)
			}
			components = append(components, x.component(component.l))
		}
		s = append(s, components)
	}
	return s
}

// withoutGap leaves out the bytes before a segment.
func withoutGap(l []unit) []unit {
	for len(l) > 0 && !l[0].released && strings.Contains("\n\r ", string([]byte{l[0].b})) {
		l = l[1:]
	}
	return l
}

// read returns what lex.Read should return.
func (x *reference) read(text string) ([]lex.Segment, int, api.Errno) {
	if len(text) > 65536 {
		return nil, 0, api.ErrLong
	}
	var l []lex.Segment
	parts := split(units(text), '\'')
	for i, p := range parts {
		inside, ended := withoutGap(p.l), i+1 < len(parts)
		if !ended && len(inside) == 0 {
			break
		}
		if i >= 5000 && len(inside) > 0 {
			x.fault(inside[0].at, 0, api.ErrMany)
		} else if i >= 5000 {
			x.fault(parts[i+1].after, 0, api.ErrMany)
		}
		if !ended {
			x.fault(len(text), 4, lex.ErrEnd)
		}
		l = append(l, x.segment(inside))
	}
	if len(x.faults) == 0 {
		return l, 0, api.OK
	}
	first := slices.MinFunc(x.faults, func(a, b fault) int {
		if a.at != b.at {
			return a.at - b.at
		}
		return a.rank - b.rank
	})
	return nil, first.at, first.e
}

// checkRead compares what is read of a text with the reference.
func checkRead(t *testing.T, text string) api.Errno {
	t.Helper()
	want, wantAt, wrong := new(reference).read(text)
	l, at, e := lex.Read(text)
	if !same(l, want) || at != wantAt || e != wrong {
		t.Errorf("%q (%d bytes): %.60q %d %d, not %.60q %d %d", short(text), len(text), l, at, e, want, wantAt, wrong)
	}
	return e
}

// P4.2

func TestRead(t *testing.T) {
	for _, x := range []struct {
		text string
		want []lex.Segment
	}{
		{"", nil},
		{" ", nil},
		{"\n\r \r\n  ", nil},
		{"A+b:c+?'x'", []lex.Segment{{{"A"}, {"b", "c"}, {"'x"}}}},
		{" A'\nB''", []lex.Segment{one("A"), one("B"), one("")}},
		{"\r\n A'\r\nB' \n'\r\n", []lex.Segment{one("A"), one("B"), one("")}},
		{"'", []lex.Segment{one("")}},
		{"''", []lex.Segment{one(""), one("")}},
		{" ' ' ", []lex.Segment{one(""), one("")}},
		{"+'", []lex.Segment{{{""}, {""}}}},
		{":'", []lex.Segment{one("", "")}},
		{"+:+'", []lex.Segment{{{""}, {"", ""}, {""}}}},
		{"A B '", []lex.Segment{one("A B ")}},
		{"A+ b: c '", []lex.Segment{{{"A"}, {" b", " c "}}}},
		{"? x'", []lex.Segment{one(" x")}},
		{" ?  x'", []lex.Segment{one("  x")}},
		{"A? b'", []lex.Segment{one("A b")}},
		{"?''", []lex.Segment{one("'")}},
		{"??'", []lex.Segment{one("?")}},
		{"???''", []lex.Segment{one("?'")}},
		{"?'?+?:??? '", []lex.Segment{one("'+:? ")}},
		{"?+:?:+?''", []lex.Segment{{{"+", ":"}, {"'"}}}},
		{"~!'", []lex.Segment{one("~!")}},
	} {
		if l, at, e := lex.Read(x.text); !same(l, x.want) || at != 0 || e != api.OK {
			t.Errorf("%q: %q %d %d", x.text, l, at, e)
		}
	}
}

func TestReadErrors(t *testing.T) {
	for _, x := range []struct {
		text string
		at   int
		want api.Errno
	}{
		{"A?b'", 1, lex.ErrRelease},
		{"A\n", 1, lex.ErrByte},
		{"A+", 2, lex.ErrEnd},
		{"A", 1, lex.ErrEnd},
		{"A ", 2, lex.ErrEnd},
		{"? ", 2, lex.ErrEnd},
		{"A'B", 3, lex.ErrEnd},
		{"A'\nB?'", 6, lex.ErrEnd},
		{"A:", 2, lex.ErrEnd},
		{"?", 0, lex.ErrRelease},
		{" ?", 1, lex.ErrRelease},
		{"???", 2, lex.ErrRelease},
		{"?a?", 0, lex.ErrRelease},
		{"?\n'", 0, lex.ErrRelease},
		{"?\r'", 0, lex.ErrRelease},
		{"?\xff'", 0, lex.ErrRelease},
		{"?\u00e4'", 0, lex.ErrRelease},
		{"'?\x00", 1, lex.ErrRelease},
		{"A\r'", 1, lex.ErrByte},
		{"A+\n'", 2, lex.ErrByte},
		{"A:\n'", 2, lex.ErrByte},
		{"? \n'", 2, lex.ErrByte},
		{"\t'", 0, lex.ErrByte},
		{" \n\t'", 2, lex.ErrByte},
		{"A'\x00", 2, lex.ErrByte},
		{"A\x1f", 1, lex.ErrByte},
		{"A\x7f", 1, lex.ErrByte},
		{"A\x80", 1, lex.ErrByte},
		{"A\u00e4'", 1, lex.ErrByte},
		{"A\ufffd'", 1, lex.ErrByte},
		{"A\n?b", 1, lex.ErrByte},
		{"A?b\n", 1, lex.ErrRelease},
	} {
		if l, at, e := lex.Read(x.text); len(l) != 0 || at != x.at || e != x.want {
			t.Errorf("%q: %q %d %d", x.text, l, at, e)
		}
	}
}

func TestReadOfAnyByte(t *testing.T) {
	for b := range 256 {
		as := string([]byte{byte(b)})
		for _, text := range []string{"*", "*'", " *'", "A*'", "A*B'", "A+*'", "A:*'", "A'*'", "A'*", "?*'", "A?*'", "A?*", "A+B:?*C'", "??*'"} {
			checkRead(t, strings.ReplaceAll(text, "*", as))
		}
	}
}

func TestReadLimits(t *testing.T) {
	full, segments := strings.Repeat("x", 100), strings.Repeat("'", 5000)
	for _, x := range []struct {
		text string
		at   int
		want api.Errno
	}{
		{strings.Repeat("+", 29) + "'", 0, api.OK},
		{strings.Repeat("+", 30) + "'", 29, api.ErrMany},
		{"A+" + strings.Repeat("b:c+", 28) + "d'A+", 118, lex.ErrEnd},
		{"A+" + strings.Repeat("b:c+", 29) + "d'A+", 117, api.ErrMany},
		{strings.Repeat(":", 9) + "'", 0, api.OK},
		{strings.Repeat(":", 10) + "'", 9, api.ErrMany},
		{"A+" + strings.Repeat(":", 9) + "+" + strings.Repeat(":", 9) + "'", 0, api.OK},
		{"A+" + strings.Repeat(":", 9) + "+" + strings.Repeat(":", 10) + "'", 21, api.ErrMany},
		{strings.Repeat("?+", 40) + strings.Repeat("?:", 40) + "'", 0, api.OK},
		{full + "'", 0, api.OK},
		{full + "x'", 100, api.ErrLong},
		{full + " '", 100, api.ErrLong},
		{strings.Repeat("??", 100) + "'", 0, api.OK},
		{strings.Repeat("??", 100) + "x'", 200, api.ErrLong},
		{strings.Repeat("??", 100) + "?''", 200, api.ErrLong},
		{"A+b:" + full + "? '", 104, api.ErrLong},
		{full + ":" + full + "+" + full + "'" + full + "'", 0, api.OK},
		{full + ":" + full + "+" + full + "'" + full + "x'", 403, api.ErrLong},
		{segments, 0, api.OK},
		{segments + " \r\n ", 0, api.OK},
		{segments + "'", 5000, api.ErrMany},
		{segments + "A", 5000, api.ErrMany},
		{segments + " \n? '", 5002, api.ErrMany},
		{segments + strings.Repeat(" ", 60536), 0, api.OK},
		{strings.Repeat(" ", 65535) + "'", 0, api.OK},
		{strings.Repeat(" ", 65536) + "'", 0, api.ErrLong},
		{segments + strings.Repeat(" ", 60537), 0, api.ErrLong},
	} {
		l, at, e := lex.Read(x.text)
		if at != x.at || e != x.want || e != api.OK && len(l) != 0 {
			t.Errorf("%q (%d bytes): %d %d %d", short(x.text), len(x.text), len(l), at, e)
		}
		checkRead(t, x.text)
	}
}

// Of two errors at the same position the one that is named first is returned, and of others the first one.
func TestReadErrorsInOrder(t *testing.T) {
	full, segments := strings.Repeat("x", 100), strings.Repeat("'", 5000)
	elements, components := strings.Repeat("+", 29), strings.Repeat(":", 9)
	for _, x := range []struct {
		text string
		at   int
		want api.Errno
	}{
		{strings.Repeat("\x00", 65537), 0, api.ErrLong},
		{"A?b" + strings.Repeat("'", 65536), 0, api.ErrLong},
		{segments + "\x00", 5000, api.ErrMany},
		{segments + "\xff'", 5000, api.ErrMany},
		{segments + "?", 5000, api.ErrMany},
		{segments + "?b", 5000, api.ErrMany},
		{segments + "A\x00", 5000, api.ErrMany},
		{full + "\x00", 100, lex.ErrByte},
		{full + "\x7f", 100, lex.ErrByte},
		{full + "\n", 100, lex.ErrByte},
		{full + "?b", 100, lex.ErrRelease},
		{full + "?\n", 100, lex.ErrRelease},
		{full + "?", 100, lex.ErrRelease},
		{full + "? \n", 100, api.ErrLong},
		{full + "x\n", 100, api.ErrLong},
		{full + "x", 100, api.ErrLong},
		{full, 100, lex.ErrEnd},
		{full + "+", 101, lex.ErrEnd},
		{elements + "+", 29, api.ErrMany},
		{elements + "+\x00", 29, api.ErrMany},
		{elements + "\x00+", 29, lex.ErrByte},
		{elements + "?", 29, lex.ErrRelease},
		{elements, 29, lex.ErrEnd},
		{elements + full + "+", 129, api.ErrMany},
		{elements + full + "x+", 129, api.ErrLong},
		{components + ":", 9, api.ErrMany},
		{components + ":\n", 9, api.ErrMany},
		{components + "\n:", 9, lex.ErrByte},
		{components + "?b:", 9, lex.ErrRelease},
		{components, 9, lex.ErrEnd},
		{components + full + ":", 109, api.ErrMany},
		{components + full + "x:", 109, api.ErrLong},
		{elements + components + ":", 38, api.ErrMany},
		{elements + components + "+", 38, api.ErrMany},
		{elements[1:] + components + "+" + components, 47, lex.ErrEnd},
	} {
		if l, at, e := lex.Read(x.text); len(l) != 0 || at != x.at || e != x.want {
			t.Errorf("%q (%d bytes): %.60q %d %d", short(x.text), len(x.text), l, at, e)
		}
		checkRead(t, x.text)
	}
}

func TestReadOfEveryShortText(t *testing.T) {
	const bytes = "a'+:? \n\t\xe4"
	met := map[api.Errno]int{}
	var all func(text string, more int)
	all = func(text string, more int) {
		met[checkRead(t, text)]++
		if more == 0 || t.Failed() {
			return
		}
		for i := range len(bytes) {
			all(text+bytes[i:i+1], more-1)
		}
	}
	all("", 5)
	for _, e := range []api.Errno{api.OK, lex.ErrByte, lex.ErrRelease, lex.ErrEnd} {
		if met[e] == 0 {
			t.Error("not met:", e)
		}
	}
}

// someRuns returns a text of runs that are about as long as they may be.
func someRuns(r *rand.Rand) string {
	pieces := []string{"x", "x", "'", "+", ":", "+:", "??", "?'", "? ", " ", "\n", "x:x+", "x'\r\n", "?b", "\x00"}
	lengths := []int{1, 2, 8, 9, 10, 28, 29, 30, 48, 49, 50, 51, 98, 99, 100, 101}
	var text strings.Builder
	for range 1 + r.Intn(12) {
		piece := pieces[r.Intn(len(pieces)-2*r.Intn(2))]
		n := lengths[r.Intn(len(lengths))]
		if r.Intn(60) == 0 {
			n = 4999 + r.Intn(3)
		}
		text.WriteString(strings.Repeat(piece, n))
	}
	return text.String()
}

func TestReadOfLongTexts(t *testing.T) {
	r := rand.New(rand.NewSource(3))
	met := map[api.Errno]int{}
	for range 5000 {
		met[checkRead(t, someRuns(r))]++
	}
	for _, e := range []api.Errno{api.OK, api.ErrMany, api.ErrLong, lex.ErrByte, lex.ErrRelease, lex.ErrEnd} {
		if met[e] < 20 {
			t.Error("hardly met:", e, met[e])
		}
	}
}

// spoilt returns a text in which some bytes are others, or are missing, or are there twice.
func spoilt(r *rand.Rand, text string) string {
	b := []byte(text)
	for range r.Intn(3) {
		if len(b) == 0 {
			break
		}
		at := r.Intn(len(b))
		switch r.Intn(4) {
		case 0:
			b[at] = byte(r.Intn(256))
		case 1:
			b[at] = "'+:? \n"[r.Intn(6)]
		case 2:
			b = slices.Delete(b, at, at+1)
		case 3:
			b = slices.Insert(b, at, b[at])
		}
	}
	return string(b)
}

func TestReadOfSpoiltTexts(t *testing.T) {
	r := rand.New(rand.NewSource(4))
	for range 5000 {
		checkRead(t, spoilt(r, writtenAll(someSegments(r, 4))))
	}
}

func TestReadSharesNoMemory(t *testing.T) {
	r := rand.New(rand.NewSource(5))
	for range 200 {
		want := someSegments(r, 5)
		text := writtenAll(want)
		l, _, _ := lex.Read(text)
		other, _, _ := lex.Read(text)
		// What is appended must not appear in another slice of the result.
		for i := range l {
			_ = append(l[i], []string{"spare"})
			for j := range l[i] {
				_ = append(l[i][j], "spare")
			}
		}
		if !same(l, want) {
			t.Errorf("%q", l)
		}
		for i, s := range l {
			for j, element := range s {
				for k := range element {
					element[k] = "changed"
				}
				want[i][j] = slices.Repeat([]string{"changed"}, len(element))
				if !same(l, want) {
					t.Errorf("%d %d: %q", i, j, l)
				}
			}
		}
		if !same(other, readAgain(text)) || text != writtenAll(other) {
			t.Errorf("%q", other)
		}
	}
}

// readAgain returns the segments of a text.
func readAgain(text string) []lex.Segment {
	l, _, _ := lex.Read(text)
	return l
}

// P4.3

// someGap returns bytes that are left out between segments.
func someGap(r *rand.Rand) string {
	b := make([]byte, r.Intn(4))
	for i := range b {
		b[i] = "\n\r "[r.Intn(3)]
	}
	return string(b)
}

func TestWhatIsWrittenIsReadAsItWas(t *testing.T) {
	r := rand.New(rand.NewSource(6))
	for range 3000 {
		l := someSegments(r, 5)
		text, e := lex.Write(l)
		back, at, f := lex.Read(text)
		if !same(back, l) || at != 0 || e != api.OK || f != api.OK {
			t.Errorf("%q: %q %d %d %d", l, back, e, at, f)
		}
		apart := someGap(r)
		for _, s := range l {
			text, _ := lex.Write([]lex.Segment{s})
			apart += text + someGap(r)
		}
		if back, at, e := lex.Read(apart); !same(back, l) || at != 0 || e != api.OK {
			t.Errorf("%q: %q %d %d", short(apart), back, at, e)
		}
	}
}

func TestFullSegmentsAreReadAsTheyWere(t *testing.T) {
	for i, s := range fullSegments() {
		text, e := lex.Write([]lex.Segment{s, s})
		if back, at, f := lex.Read(text); !same(back, []lex.Segment{s, s}) || e != api.OK || at != 0 || f != api.OK {
			t.Error(i, e, at, f)
		}
	}
	for _, length := range []int{65535, 65536} {
		plain, releases := longTexts(length)
		for _, l := range [][]lex.Segment{plain, releases} {
			text, e := lex.Write(l)
			if back, at, f := lex.Read(text); !same(back, l) || e != api.OK || at != 0 || f != api.OK {
				t.Error(length, e, at, f)
			}
		}
	}
}

func TestWhatIsReadIsRightAndNotLonger(t *testing.T) {
	r := rand.New(rand.NewSource(7))
	read, shorter := 0, 0
	for i := range 20000 {
		text := someRuns(r)
		if i%2 == 0 {
			text = spoilt(r, writtenAll(someSegments(r, 3)))
		}
		l, _, e := lex.Read(text)
		if e != api.OK {
			continue
		}
		for _, s := range l {
			if !lex.Right(s) {
				t.Errorf("%q: %q", short(text), s)
			}
		}
		again, f := lex.Write(l)
		if f != api.OK || len(again) > len(text) || !same(readAgain(again), l) {
			t.Errorf("%q: %q %d", short(text), short(again), f)
		}
		read++
		if len(again) < len(text) {
			shorter++
		}
	}
	if read < 1000 || shorter < 100 {
		t.Error(read, shorter)
	}
}

func TestTextsOneAfterTheOther(t *testing.T) {
	r := rand.New(rand.NewSource(8))
	for range 2000 {
		one, other := someSegments(r, 3), someSegments(r, 3)
		first, _ := lex.Write(one)
		second, _ := lex.Write(other)
		l, at, e := lex.Read(someGap(r) + first + someGap(r) + second + someGap(r))
		if !same(l, slices.Concat(one, other)) || at != 0 || e != api.OK {
			t.Errorf("%q %q: %q %d %d", first, second, l, at, e)
		}
		if both, e := lex.Write(slices.Concat(one, other)); both != first+second || e != api.OK {
			t.Errorf("%q %q: %q %d", first, second, both, e)
		}
	}
}

func TestDifferentSegmentsAreWrittenDifferently(t *testing.T) {
	r := rand.New(rand.NewSource(9))
	const bytes = "'+:? a"
	lists := map[string][]lex.Segment{}
	equal := 0
	for range 100000 {
		var l []lex.Segment
		for range r.Intn(3) {
			var s lex.Segment
			for range 1 + r.Intn(2) {
				var element []string
				for range 1 + r.Intn(2) {
					b := make([]byte, r.Intn(3))
					for i := range b {
						b[i] = bytes[r.Intn(len(bytes))]
					}
					element = append(element, string(b))
				}
				s = append(s, element)
			}
			l = append(l, s)
		}
		text, e := lex.Write(l)
		before, met := lists[text]
		if e != api.OK || met && !same(before, l) {
			t.Errorf("%q: %q, %q %d", text, before, l, e)
		}
		if met {
			equal++
		}
		lists[text] = l
	}
	if equal == 0 || len(lists) < 1000 {
		t.Error(equal, len(lists))
	}
}
