package lex_test

import (
	"math/rand"
	"slices"
	"strings"
	"testing"

	"twistlock/api"
	"twistlock/lex"
)

// one returns a segment of one element with these components.
func one(components ...string) lex.Segment { return lex.Segment{components} }

// same reports whether lists of segments are equal.
func same(a, b []lex.Segment) bool {
	return slices.EqualFunc(a, b, func(s, t lex.Segment) bool {
		return slices.EqualFunc(s, t, slices.Equal[[]string])
	})
}

// clone returns a list of segments in memory of its own.
func clone(l []lex.Segment) []lex.Segment {
	var copied []lex.Segment
	for _, s := range l {
		var t lex.Segment
		for _, element := range s {
			t = append(t, slices.Clone(element))
		}
		copied = append(copied, t)
	}
	return copied
}

// short cuts long texts.
func short(s string) string { return s[:min(len(s), 60)] }

// oftenSpecial has the bytes of a component, and those more often that are written or read in another way.
const oftenSpecial = `'''+++:::???   ` + ` !"#$%&'()*+,-./0123456789:;<=>?@ABCDEFGHIJKLMNOPQRSTUVWXYZ[\]^_` + "`abcdefghijklmnopqrstuvwxyz{|}~"

// someText returns at most so many bytes that may stand in a component.
func someText(r *rand.Rand, most int) string {
	b := make([]byte, r.Intn(most+1))
	for i := range b {
		b[i] = oftenSpecial[r.Intn(len(oftenSpecial))]
	}
	return string(b)
}

// someSegment returns a right segment, sometimes with as much as there may be.
func someSegment(r *rand.Rand) lex.Segment {
	elements, components, bytes := 1+r.Intn(4), 1+r.Intn(3), 6
	switch r.Intn(12) {
	case 0:
		elements = lex.MaxElements
	case 1:
		components = lex.MaxComponents
	case 2:
		bytes = lex.MaxText
	}
	var s lex.Segment
	for range elements {
		var element []string
		for range 1 + r.Intn(components) {
			element = append(element, someText(r, bytes))
		}
		s = append(s, element)
	}
	return s
}

// someSegments returns at most so many right segments.
func someSegments(r *rand.Rand, most int) []lex.Segment {
	var l []lex.Segment
	for range r.Intn(most + 1) {
		l = append(l, someSegment(r))
	}
	return l
}

// written returns a segment as it is written, put together part by part.
func written(s lex.Segment) string {
	releases := strings.NewReplacer("'", "?'", "+", "?+", ":", "?:", "?", "??")
	var elements []string
	for _, element := range s {
		var components []string
		for _, component := range element {
			components = append(components, releases.Replace(component))
		}
		elements = append(elements, strings.Join(components, ":"))
	}
	text := strings.Join(elements, "+") + "'"
	if text[0] == ' ' {
		text = "?" + text
	}
	return text
}

// writtenAll returns segments as they are written, one after the other.
func writtenAll(l []lex.Segment) string {
	var text strings.Builder
	for _, s := range l {
		text.WriteString(written(s))
	}
	return text.String()
}

// wrongSegments returns segments that are not right, each for one reason.
func wrongSegments() []lex.Segment {
	long := strings.Repeat("x", lex.MaxText+1)
	return []lex.Segment{
		nil, {}, {nil}, {{}}, {{"A"}, nil}, {{"A"}, {}}, {nil, {"A"}}, {{"A"}, {}, {"B"}},
		make(lex.Segment, lex.MaxElements), append(slices.Repeat(one("A"), lex.MaxElements), []string{"A"}), slices.Repeat(one(""), lex.MaxElements+1), slices.Repeat(one(""), 100000),
		one(make([]string, lex.MaxComponents+1)...), {{"A"}, make([]string, lex.MaxComponents+1)}, one(make([]string, 100000)...),
		one(long), one("", long), {{"A"}, {"b", long}, {"C"}}, one(strings.Repeat("'", lex.MaxText+1)), one(strings.Repeat("x", 1000000)),
		one("\n"), one("\r"), one("A\n"), one("\nA"), one("\t"), one("\x00"), one("\x1f"), one("\x7f"), one("\x80"), one("\xff"), one("\u00e4"), one("\u20ac"), one("\U0001F6A2"), one("A", "\x7f"), {{"A"}, {"\x1f"}}, one(strings.Repeat("x", lex.MaxText-1) + "\x7f"),
	}
}

// fullSegments returns right segments with as much as there may be of something, or as little.
func fullSegments() []lex.Segment {
	full := strings.Repeat("x", lex.MaxText)
	return []lex.Segment{
		one(""), one("A"), one("", ""), {{""}, {""}}, one(" "), one("'"), one("~"), {{"A"}, {"b", "c"}, {"'x"}},
		slices.Repeat(one(""), lex.MaxElements), one(make([]string, lex.MaxComponents)...), one(full), one(strings.Repeat("'", lex.MaxText)), one(strings.Repeat(" ", lex.MaxText)),
		slices.Repeat(one(slices.Repeat([]string{full}, lex.MaxComponents)...), lex.MaxElements),
	}
}

// P4.1

func TestRight(t *testing.T) {
	for i, s := range fullSegments() {
		if !lex.Right(s) {
			t.Error("not right:", i)
		}
	}
	for i, s := range wrongSegments() {
		if lex.Right(s) {
			t.Error("right:", i)
		}
	}
}

func TestRightOfAnyByte(t *testing.T) {
	for b := range 256 {
		for _, text := range []string{"*", "*bc", "a*c", "ab*"} {
			text = strings.ReplaceAll(text, "*", string([]byte{byte(b)}))
			for _, s := range []lex.Segment{one(text), one("A", text, "B"), {{"A"}, {"B", text}, {"C"}}, {{text}, {"A"}}} {
				if lex.Right(s) != (32 <= b && b <= 126) {
					t.Errorf("%d in %q", b, s)
				}
			}
		}
	}
}

func TestWrite(t *testing.T) {
	for _, x := range []struct {
		l    []lex.Segment
		want string
	}{
		{nil, ""},
		{[]lex.Segment{}, ""},
		{[]lex.Segment{{{"A"}, {"b", "c"}, {"'x"}}}, "A+b:c+?'x'"},
		{[]lex.Segment{one("A"), one("B"), one("")}, "A'B''"},
		{[]lex.Segment{one(""), one("")}, "''"},
		{[]lex.Segment{one(" x")}, "? x'"},
		{[]lex.Segment{one(" ")}, "? '"},
		{[]lex.Segment{one("  ")}, "?  '"},
		{[]lex.Segment{one("A"), one(" B"), one(" ?")}, "A'? B'? ??'"},
		{[]lex.Segment{one("A "), one("B C")}, "A 'B C'"},
		{[]lex.Segment{one("", " x")}, ": x'"},
		{[]lex.Segment{{{""}, {" x"}}}, "+ x'"},
		{[]lex.Segment{{{" "}, {" ", " "}}}, "? + : '"},
		{[]lex.Segment{one("'+:?")}, "?'?+?:??'"},
		{[]lex.Segment{{{"A"}, {""}, {"", ""}, {""}}}, "A++:+'"},
	} {
		if text, e := lex.Write(x.l); text != x.want || e != api.OK {
			t.Errorf("%q: %q %d", x.l, text, e)
		}
	}
}

func TestWriteOfAnyByte(t *testing.T) {
	for b := 32; b <= 126; b++ {
		as := string([]byte{byte(b)})
		plain, first := as, as
		switch as {
		case "'", "+", ":", "?":
			plain, first = "?"+as, "?"+as
		case " ":
			first = "? "
		}
		want := first + "x:" + plain + "+" + plain + "'"
		if text, e := lex.Write([]lex.Segment{{{as + "x", as}, {as}}}); text != want || e != api.OK {
			t.Errorf("%q: %q %d", as, text, e)
		}
	}
}

func TestWriteOfAnySegments(t *testing.T) {
	r := rand.New(rand.NewSource(1))
	for range 3000 {
		l := someSegments(r, 5)
		if text, e := lex.Write(l); text != writtenAll(l) || e != api.OK {
			t.Errorf("%q: %q %d", l, short(text), e)
		}
	}
}

func TestWriteArgumentsThatAreNotRight(t *testing.T) {
	for i, s := range wrongSegments() {
		for _, l := range [][]lex.Segment{{s}, {one("A"), s}, {s, one("A")}, {one("A"), s, one("B")}} {
			if text, e := lex.Write(l); text != "" || e != api.ErrArg {
				t.Error(i, short(text), e)
			}
		}
	}
}

func TestWriteOfManySegments(t *testing.T) {
	l := slices.Repeat([]lex.Segment{one("A")}, lex.MaxSegments)
	if text, e := lex.Write(l); text != strings.Repeat("A'", 5000) || e != api.OK {
		t.Error(short(text), e)
	}
	if text, e := lex.Write(append(l, one("A"))); text != "" || e != api.ErrMany {
		t.Error(short(text), e)
	}
}

// longTexts returns segments whose text has so many bytes, all of them xs, or all of them released.
func longTexts(length int) (plain, releases []lex.Segment) {
	for rest := length; rest > 0; {
		n := min(rest, lex.MaxText+1)
		plain = append(plain, one(strings.Repeat("x", n-1)))
		rest -= n
	}
	for rest := length; rest > 0; {
		n := min(rest, 2*lex.MaxText+1)
		// An even number has an x besides.
		releases = append(releases, one(strings.Repeat("?", (n-1)/2)+strings.Repeat("x", (n-1)%2)))
		rest -= n
	}
	return plain, releases
}

func TestWriteOfLongTexts(t *testing.T) {
	for _, length := range []int{65534, 65535, 65536, 65537, 65538, 70000} {
		plain, releases := longTexts(length)
		for i, l := range [][]lex.Segment{plain, releases} {
			want, wrong := writtenAll(l), api.OK
			if len(want) != length {
				t.Fatal(len(want))
			}
			if length > 65536 {
				want, wrong = "", api.ErrLong
			}
			if text, e := lex.Write(l); text != want || e != wrong {
				t.Error(length, i, len(text), e)
			}
		}
	}
}

func TestWriteErrorsInOrder(t *testing.T) {
	plain, releases := longTexts(70000)
	whole := fullSegments()
	greatest := whole[len(whole)-1]
	many := slices.Repeat([]lex.Segment{one("A")}, lex.MaxSegments+1)
	for i, x := range []struct {
		l    []lex.Segment
		want api.Errno
	}{
		{slices.Repeat([]lex.Segment{nil}, lex.MaxSegments+1), api.ErrMany},
		{slices.Concat([]lex.Segment{nil}, many), api.ErrMany},
		{slices.Concat(many, []lex.Segment{one("\n")}), api.ErrMany},
		{slices.Concat(plain, many), api.ErrMany},
		{slices.Repeat([]lex.Segment{greatest}, lex.MaxSegments+1), api.ErrMany},
		{slices.Concat([]lex.Segment{one("\n")}, plain), api.ErrArg},
		{slices.Concat(plain, []lex.Segment{one("\n")}), api.ErrArg},
		{slices.Concat(releases, []lex.Segment{nil}), api.ErrArg},
		{append(slices.Repeat([]lex.Segment{greatest}, lex.MaxSegments-1), one("\x80")), api.ErrArg},
		{plain, api.ErrLong},
		{releases, api.ErrLong},
		{slices.Repeat([]lex.Segment{greatest}, lex.MaxSegments), api.ErrLong},
		{[]lex.Segment{greatest, greatest}, api.OK}, // 60600 bytes
		{[]lex.Segment{greatest, greatest, greatest}, api.ErrLong},
	} {
		want := ""
		if x.want == api.OK {
			want = writtenAll(x.l)
		}
		if text, e := lex.Write(x.l); text != want || e != x.want {
			t.Error(i, len(text), e)
		}
	}
}

func TestWriteLeavesItsArgument(t *testing.T) {
	r := rand.New(rand.NewSource(2))
	for range 200 {
		l := someSegments(r, 5)
		spare := append(clone(l), one("spare"))
		given := spare[:len(l)]
		lex.Write(given)
		for _, s := range given {
			lex.Right(s)
		}
		if !same(spare, append(clone(l), one("spare"))) {
			t.Errorf("%q", spare)
		}
	}
}
