package segment_test

import (
	"math"
	"math/rand"
	"slices"
	"strconv"
	"strings"
	"testing"

	"twistlock/api"
	"twistlock/lex"
	"twistlock/segment"
)

// data returns elements from a text like a,b/c: a and b; c. An element of "-" has no components.
func data(text string) [][]string {
	var elements [][]string
	for _, element := range strings.Split(text, "/") {
		if element == "-" {
			elements = append(elements, nil)
		} else {
			elements = append(elements, strings.Split(element, ","))
		}
	}
	return elements
}

// message returns a message whose segments have these tags and no data.
func message(kind, ref string, tags ...string) segment.Message {
	m := segment.Message{Kind: kind, Ref: ref}
	for _, tag := range tags {
		m.Segs = append(m.Segs, segment.Seg{Tag: tag})
	}
	return m
}

// with returns a message of one segment with this data.
func with(elements [][]string) segment.Message {
	return segment.Message{Kind: "ABCDEF", Ref: "1", Segs: []segment.Seg{{Tag: "ABC", Data: elements}}}
}

// example is the message of the chapter's examples.
func example() segment.Message {
	return segment.Message{Kind: "BAYPLN", Ref: "V1", Segs: []segment.Seg{
		{Tag: "LOC", Data: data("147/0010182")},
		{Tag: "EQD", Data: [][]string{{"CN", ""}, {"CSQU3054383"}, {""}}},
	}}
}

const exampleText = "HED+V1+BAYPLN'LOC+147+0010182'EQD+CN+CSQU3054383'END+4+V1'"

func sameData(a, b [][]string) bool {
	return slices.EqualFunc(a, b, slices.Equal[[]string])
}

func sameMessage(a, b segment.Message) bool {
	return a.Kind == b.Kind && a.Ref == b.Ref && slices.EqualFunc(a.Segs, b.Segs, func(s, t segment.Seg) bool {
		return s.Tag == t.Tag && sameData(s.Data, t.Data)
	})
}

func same(a, b []segment.Message) bool {
	return slices.EqualFunc(a, b, sameMessage)
}

// cloneData returns data in memory of its own.
func cloneData(elements [][]string) [][]string {
	var copied [][]string
	for _, element := range elements {
		copied = append(copied, slices.Clone(element))
	}
	return copied
}

// mapData returns messages in memory of their own, with data that a function makes of theirs.
func mapData(l []segment.Message, made func([][]string) [][]string) []segment.Message {
	var copied []segment.Message
	for _, m := range l {
		n := segment.Message{Kind: m.Kind, Ref: m.Ref}
		for _, s := range m.Segs {
			n.Segs = append(n.Segs, segment.Seg{Tag: s.Tag, Data: made(s.Data)})
		}
		copied = append(copied, n)
	}
	return copied
}

// short cuts long texts.
func short(s string) string { return s[:min(len(s), 80)] }

// trimmed trims data step by step, as the chapter says it.
func trimmed(elements [][]string) [][]string {
	l := cloneData(elements)
	for i, element := range l {
		if len(element) == 0 {
			l[i] = []string{""}
		}
		for len(l[i]) > 1 && l[i][len(l[i])-1] == "" {
			l[i] = slices.Delete(l[i], len(l[i])-1, len(l[i]))
		}
	}
	for len(l) > 0 && slices.Equal(l[len(l)-1], []string{""}) {
		l = slices.Delete(l, len(l)-1, len(l))
	}
	return l
}

// everyData returns all data of up to three elements with up to three components, each of which is a or empty.
func everyData() [][][]string {
	elements := [][]string{nil}
	for from := 0; len(elements) < 15; from++ {
		for _, c := range []string{"", "a"} {
			elements = append(elements, append(slices.Clone(elements[from]), c))
		}
	}
	all := [][][]string{nil}
	for from := 0; len(all[from]) < 3; from++ {
		for _, element := range elements {
			all = append(all, append(slices.Clone(all[from]), element))
		}
	}
	return all
}

// spare returns a copy of data whose elements have spare capacity, and so has itself.
func spare(elements [][]string) [][]string {
	l := make([][]string, 0, len(elements)+2)
	for _, element := range elements {
		l = append(l, append(make([]string, 0, len(element)+2), element...))
	}
	return l
}

// P5.1

func TestTrim(t *testing.T) {
	for _, x := range []struct{ elements, want [][]string }{
		{nil, nil},
		{[][]string{}, nil},
		{[][]string{{}}, nil},
		{[][]string{nil, nil, {""}, {"", ""}}, nil},
		{data("a"), data("a")},
		{data("a,"), data("a")},
		{data(",a"), data(",a")},
		{data(",,a,,"), data(",,a")},
		{data("a,,b"), data("a,,b")},
		{data("/a"), data("/a")},
		{data("a/"), data("a")},
		{data("a//,/-"), data("a")},
		{data("a//b"), data("a//b")},
		{data("-/b"), data("/b")},
		{data("-/-/b,/-"), data("//b")},
		{data(",,/,/b"), data("//b")},
		{data("a,b,/,c/d,,"), data("a,b/,c/d")},
		{[][]string{{" "}, {"\x00"}}, [][]string{{" "}, {"\x00"}}},
		{[][]string{{"", " ", ""}, {" "}, {}}, [][]string{{"", " "}, {" "}}},
		{make([][]string, 1000), nil},
		{[][]string{make([]string, 1000), {"a"}}, data("/a")},
	} {
		if got := segment.Trim(x.elements); !sameData(got, x.want) {
			t.Errorf("%q: %q", x.elements, got)
		}
	}
}

func TestTrimOfEveryShortData(t *testing.T) {
	all := everyData()
	if len(all) != 1+15+15*15+15*15*15 {
		t.Fatal(len(all))
	}
	for _, elements := range all {
		want := trimmed(elements)
		got := segment.Trim(elements)
		if !sameData(got, want) {
			t.Errorf("%q: %q", elements, got)
		}
		if again := segment.Trim(got); !sameData(again, want) {
			t.Errorf("%q: %q, then %q", elements, got, again)
		}
	}
}

func TestTrimSharesNoMemory(t *testing.T) {
	for _, elements := range everyData() {
		argument := spare(elements)
		want := trimmed(elements)
		got := segment.Trim(argument)
		_ = append(got, []string{"spare"})
		for i := range got {
			_ = append(got[i], "spare")
		}
		if !sameData(got, want) {
			t.Errorf("%q: %q", elements, got)
		}
		for i := range got {
			for j := range got[i] {
				got[i][j] = "changed"
			}
			got[i] = nil
			if !sameData(got[i+1:], want[i+1:]) {
				t.Errorf("%q: %q after %d", elements, got, i)
			}
		}
		if !sameData(argument, elements) || !untouched(argument) {
			t.Errorf("%q: now %q", elements, argument)
		}
	}
}

// untouched reports whether there is nothing in the spare capacity of data and its elements.
func untouched(elements [][]string) bool {
	for _, element := range elements {
		if strings.Join(element[len(element):cap(element)], "") != "" {
			return false
		}
	}
	return !slices.ContainsFunc(elements[len(elements):cap(elements)], func(element []string) bool { return element != nil })
}

func TestRight(t *testing.T) {
	full := strings.Repeat("x", 100)
	for i, m := range []segment.Message{
		example(),
		message("ABCDEF", "1"),
		message("AZAZAZ", "A"),
		message("HEDEND", "HED", "AAA", "ZZZ", "HEE", "DEH", "ENE", "DNE"),
		message("ABCDEF", "0"),
		message("ABCDEF", "09AZ09AZ09AZ09"),
		message("ABCDEF", "1", slices.Repeat([]string{"ABC"}, 10000)...),
		with(nil),
		with(data("")),
		with(data(",/,a,//")),
		with(slices.Repeat(data("a"), 29)),
		with(slices.Repeat(data(""), 29)),
		with([][]string{make([]string, 10)}),
		with([][]string{{full, full}, {full}}),
		with([][]string{{" ~"}, {"'+:?"}, {"HED"}}),
	} {
		if !segment.Right(m) {
			t.Error("not right:", i)
		}
	}
	for i, m := range wrongMessages() {
		if segment.Right(m) {
			t.Errorf("right: %d %q %q", i, m.Kind, m.Ref)
		}
	}
}

// wrongMessages returns messages that are not right, each for one reason.
func wrongMessages() []segment.Message {
	l := []segment.Message{{Segs: []segment.Seg{{}}}, {}}
	for _, kind := range []string{"", "A", "ABCDE", "ABCDEFG", "ABCDEf", "abcdef", "ABC1EF", "ABC EF", "ABCDE\n", "ABCDE@", "[BCDEF", "ABCD\u00c4", "ABCDE\xc1", "ABCDEFABCDEF"} {
		l = append(l, message(kind, "1"))
	}
	for _, ref := range []string{"", "123456789012345", "a", "1a", "-1", "1 ", " 1", "1'", "1+2", "/", ":", "@", "[", "\u00c4", "\xc1", "\n", "1\x00", strings.Repeat("1", 1000)} {
		l = append(l, message("ABCDEF", ref))
	}
	for _, tag := range []string{"", "A", "AB", "ABCD", "HED", "END", "abc", "ABc", "A1C", "AB ", " AB", "AB'", "@AB", "AB[", "A\u00c4", "AB\xc1", "AB\n", "HEDX", "EN"} {
		l = append(l, message("ABCDEF", "1", tag), message("ABCDEF", "1", "ABC", tag, "DEF"))
	}
	for _, elements := range wrongData() {
		l = append(l, with(elements))
	}
	return l
}

// wrongData returns data that no right segment has, each for one reason.
func wrongData() [][][]string {
	long := strings.Repeat("x", 101)
	return [][][]string{
		{{}}, {nil}, {{"a"}, {}}, {{}, {"a"}}, {{"a"}, nil, {"b"}}, data("a/-"),
		slices.Repeat(data("a"), 30), slices.Repeat(data(""), 30), make([][]string, 29), make([][]string, 100000),
		{make([]string, 11)}, {{"a"}, append(make([]string, 10), "b")}, {make([]string, 100000)},
		{{long}}, {{"a", "b"}, {"c", long}}, {{strings.Repeat("'", 101)}},
		{{"\n"}}, {{"a\r"}}, {{"\x1f"}}, {{"\x7f"}}, {{"\x80"}}, {{"a"}, {"b", "\xff"}}, {{"\u00e4"}}, {{"\x00"}},
	}
}

func TestRightOfAnyByte(t *testing.T) {
	for b := range 256 {
		as := string([]byte{byte(b)})
		capital := 'A' <= b && b <= 'Z'
		digit := '0' <= b && b <= '9'
		for at := range 6 {
			kind := "ABCDEF"[:at] + as + "ABCDEF"[at+1:]
			if segment.Right(message(kind, "1")) != capital {
				t.Errorf("kind %q", kind)
			}
		}
		for at := range 14 {
			ref := "ABCDEFG0123456"[:at] + as + "ABCDEFG0123456"[at+1:]
			if segment.Right(message("ABCDEF", ref)) != (capital || digit) {
				t.Errorf("reference %q", ref)
			}
		}
		for at := range 3 {
			tag := "ABC"[:at] + as + "ABC"[at+1:]
			if segment.Right(message("ABCDEF", "1", tag)) != capital {
				t.Errorf("tag %q", tag)
			}
		}
		if segment.Right(with([][]string{{"a"}, {"b", as}})) != (32 <= b && b <= 126) {
			t.Errorf("component %q", as)
		}
	}
}

// Data are right if package lex says so of them behind a tag, trimmed or not.
func TestRightOfEveryShortData(t *testing.T) {
	for _, elements := range everyData() {
		if segment.Right(with(elements)) != lex.Right(slices.Concat(lex.Segment{{"ABC"}}, elements)) {
			t.Errorf("%q", elements)
		}
		if !segment.Right(with(segment.Trim(elements))) {
			t.Errorf("%q trimmed", elements)
		}
	}
}

func TestField(t *testing.T) {
	s := segment.Seg{Tag: "EQD", Data: [][]string{{"CN", "", "x"}, {"CSQU3054383"}, nil, {"", "y"}}}
	for element := -2; element < 7; element++ {
		for component := -2; component < 6; component++ {
			want := map[[2]int]string{{0, 0}: "CN", {0, 2}: "x", {1, 0}: "CSQU3054383", {3, 1}: "y"}[[2]int{element, component}]
			if got := segment.Field(s, element, component); got != want {
				t.Errorf("%d %d: %q", element, component, got)
			}
		}
	}
	for _, n := range []int{math.MinInt, math.MaxInt, 1 << 32, -1 << 32} {
		if got := segment.Field(s, n, 0) + segment.Field(s, 0, n) + segment.Field(s, n, n); got != "" {
			t.Errorf("%d: %q", n, got)
		}
	}
	if got := segment.Field(segment.Seg{}, 0, 0) + segment.Field(segment.Seg{Tag: "ABC", Data: [][]string{}}, 0, 0); got != "" {
		t.Errorf("%q", got)
	}
}

func TestFieldOfTheExample(t *testing.T) {
	eqd := example().Segs[1]
	for at, want := range map[[2]int]string{{1, 0}: "CSQU3054383", {1, 1}: "", {2, 0}: "", {0, 0}: "CN", {0, 1}: "", {3, 0}: ""} {
		if got := segment.Field(eqd, at[0], at[1]); got != want {
			t.Errorf("%d: %q", at, got)
		}
	}
}

// P5.2

// written returns the text of messages, put together part by part.
func written(l []segment.Message) string {
	releases := strings.NewReplacer("'", "?'", "+", "?+", ":", "?:", "?", "??")
	var text strings.Builder
	for _, m := range l {
		text.WriteString("HED+" + m.Ref + "+" + m.Kind + "'")
		for _, s := range m.Segs {
			text.WriteString(s.Tag)
			for _, element := range trimmed(s.Data) {
				var components []string
				for _, component := range element {
					components = append(components, releases.Replace(component))
				}
				text.WriteString("+" + strings.Join(components, ":"))
			}
			text.WriteString("'")
		}
		text.WriteString("END+" + strconv.Itoa(2+len(m.Segs)) + "+" + m.Ref + "'")
	}
	return text.String()
}

func someLetters(r *rand.Rand, from string, length int) string {
	b := make([]byte, length)
	for i := range b {
		b[i] = from[r.Intn(len(from))]
	}
	return string(b)
}

const (
	capitals     = "ABCDEFGHIJKLMNOPQRSTUVWXYZ"
	oftenSpecial = "''++::?? abcXYZ019~!"
)

// someData returns right data, more or less trimmed.
func someData(r *rand.Rand) [][]string {
	var elements [][]string
	for range r.Intn(5) {
		var element []string
		for range 1 + r.Intn(4) {
			element = append(element, someLetters(r, oftenSpecial, r.Intn(5)*r.Intn(2)))
		}
		elements = append(elements, element)
	}
	return elements
}

// someTag returns a tag, often one that is much like a head or a trailer.
func someTag(r *rand.Rand) string {
	for {
		if tag := someLetters(r, []string{capitals, "HED", "END"}[r.Intn(3)], 3); tag != "HED" && tag != "END" {
			return tag
		}
	}
}

// someMessages returns right messages with at most so many segments each.
func someMessages(r *rand.Rand, most int) []segment.Message {
	var l []segment.Message
	for i := range r.Intn(4) {
		// The number makes references different.
		m := segment.Message{Kind: someLetters(r, capitals, 6), Ref: strconv.Itoa(i) + someLetters(r, capitals+"0123456789", r.Intn(14))}
		for range r.Intn(most + 1) {
			m.Segs = append(m.Segs, segment.Seg{Tag: someTag(r), Data: someData(r)})
		}
		l = append(l, m)
	}
	return l
}

func TestWrite(t *testing.T) {
	for _, x := range []struct {
		l    []segment.Message
		want string
	}{
		{nil, ""},
		{[]segment.Message{}, ""},
		{[]segment.Message{example()}, exampleText},
		{[]segment.Message{message("ABCDEF", "1")}, "HED+1+ABCDEF'END+2+1'"},
		{[]segment.Message{message("ABCDEF", "2"), message("ABCDEF", "1", "ABC")}, "HED+2+ABCDEF'END+2+2'HED+1+ABCDEF'ABC'END+3+1'"},
		{[]segment.Message{message("ABCDEF", "1"), message("ABCDEF", "01"), message("ABCDEF", "10")}, "HED+1+ABCDEF'END+2+1'HED+01+ABCDEF'END+2+01'HED+10+ABCDEF'END+2+10'"},
		{[]segment.Message{with(data(""))}, "HED+1+ABCDEF'ABC'END+3+1'"},
		{[]segment.Message{with(data(",/,"))}, "HED+1+ABCDEF'ABC'END+3+1'"},
		{[]segment.Message{with(data("a,/,b,/"))}, "HED+1+ABCDEF'ABC+a+:b'END+3+1'"},
		{[]segment.Message{with(data("///a"))}, "HED+1+ABCDEF'ABC++++a'END+3+1'"},
		{[]segment.Message{with(data(" x/HED'+:?"))}, "HED+1+ABCDEF'ABC+ x+HED?'?+?:??'END+3+1'"},
		{[]segment.Message{message("ABCDEF", "1", slices.Repeat([]string{"ABC"}, 7)...)}, "HED+1+ABCDEF'" + strings.Repeat("ABC'", 7) + "END+9+1'"},
		{[]segment.Message{message("ABCDEF", "1", slices.Repeat([]string{"ABC"}, 8)...)}, "HED+1+ABCDEF'" + strings.Repeat("ABC'", 8) + "END+10+1'"},
		{[]segment.Message{message("ABCDEF", "1", slices.Repeat([]string{"ABC"}, 998)...)}, "HED+1+ABCDEF'" + strings.Repeat("ABC'", 998) + "END+1000+1'"},
	} {
		if text, e := segment.Write(x.l); text != x.want || e != api.OK {
			t.Errorf("%q: %q %d", x.want, text, e)
		}
	}
}

func TestWriteOfAnyMessages(t *testing.T) {
	r := rand.New(rand.NewSource(1))
	for range 3000 {
		l := someMessages(r, 5)
		before := mapData(l, cloneData)
		if text, e := segment.Write(l); text != written(l) || e != api.OK {
			t.Errorf("%q: %q %d", l, short(text), e)
		}
		if !same(l, before) {
			t.Errorf("%q: now %q", before, l)
		}
	}
}

func TestWriteChangesNoSpareCapacity(t *testing.T) {
	for _, elements := range everyData() {
		argument := spare(elements)
		segment.Write([]segment.Message{with(argument)})
		segment.Right(with(argument))
		segment.Field(segment.Seg{Tag: "ABC", Data: argument}, 0, 0)
		if !sameData(argument, elements) || !untouched(argument) {
			t.Errorf("%q: now %q", elements, argument)
		}
	}
}

func TestWriteArgumentsThatAreNotRight(t *testing.T) {
	for i, m := range wrongMessages() {
		for _, l := range [][]segment.Message{{m}, {message("ABCDEF", "9"), m}, {m, message("ABCDEF", "9")}, {message("ABCDEF", "8"), m, message("ABCDEF", "9")}} {
			if text, e := segment.Write(l); text != "" || e != api.ErrArg {
				t.Errorf("%d: %q %d", i, short(text), e)
			}
		}
	}
}

func TestWriteOfOneReferenceTwice(t *testing.T) {
	m := message
	for i, l := range [][]segment.Message{
		{example(), example()},
		{m("ABCDEF", "1"), m("ABCDEF", "1")},
		{m("ABCDEF", "1", "ABC"), m("FEDCBA", "1")},
		{m("ABCDEF", "1"), m("ABCDEF", "2"), m("ABCDEF", "1")},
		{m("ABCDEF", "2"), m("ABCDEF", "1"), m("ABCDEF", "3"), m("ABCDEF", "1")},
	} {
		if text, e := segment.Write(l); text != "" || e != api.ErrArg {
			t.Errorf("%d: %q %d", i, short(text), e)
		}
	}
}

// numbered returns so many messages with different references, each with so many segments.
func numbered(messages, segments int) []segment.Message {
	var l []segment.Message
	for i := range messages {
		l = append(l, message("ABCDEF", strconv.Itoa(i), slices.Repeat([]string{"ABC"}, segments)...))
	}
	return l
}

func TestWriteOfManySegments(t *testing.T) {
	for _, x := range []struct {
		l    []segment.Message
		want api.Errno
	}{
		{numbered(1, 4997), api.OK},
		{numbered(1, 4998), api.OK},
		{numbered(1, 4999), api.ErrMany},
		{numbered(1, 20000), api.ErrMany},
		{numbered(2, 2498), api.OK},
		{append(numbered(2, 2498), message("ABCDEF", "A")), api.ErrMany},
		{numbered(1000, 3), api.OK},
		{numbered(1001, 3), api.ErrMany},
		{numbered(30000, 0), api.ErrMany},
	} {
		want := written(x.l)
		if x.want != api.OK {
			want = ""
		}
		if text, e := segment.Write(x.l); text != want || e != x.want {
			t.Error(len(x.l), len(text), e)
		}
	}
}

// ofLength returns a message whose text has so many bytes, about 65536.
func ofLength(length int) []segment.Message {
	const segments = 640
	m := message("ABCDEF", "1")
	letters := length - len("HED+1+ABCDEF'END+642+1'") - segments*len("ABC+'")
	for i := range segments {
		m.Segs = append(m.Segs, segment.Seg{Tag: "ABC", Data: [][]string{{strings.Repeat("x", (letters+i)/segments)}}})
	}
	return []segment.Message{m}
}

// bloated returns data with as much behind it as is left out of it again.
func bloated(elements [][]string) [][]string {
	l := cloneData(elements)
	for i := range l {
		l[i] = append(l[i], make([]string, 10-len(l[i]))...)
	}
	return append(l, slices.Repeat([][]string{{"", ""}}, 29-len(l))...)
}

func TestWriteOfLongTexts(t *testing.T) {
	for _, length := range []int{65535, 65536, 65537, 66000} {
		l := ofLength(length)
		want, wrong := written(l), api.OK
		if len(want) != length {
			t.Fatal(len(want))
		}
		if length > 65536 {
			want, wrong = "", api.ErrLong
		}
		if text, e := segment.Write(l); text != want || e != wrong {
			t.Error(length, len(text), e)
		}
		// What is trimmed is not in the text, so it is not too long for it either.
		if text, e := segment.Write(mapData(l, bloated)); text != want || e != wrong {
			t.Error(length, "bloated", len(text), e)
		}
	}
}

func TestWriteErrorsInOrder(t *testing.T) {
	wrong, long, many := message("ABCDE", "1"), ofLength(67000), numbered(1, 4999)
	twice := []segment.Message{message("ABCDEF", "9"), message("ABCDEF", "9")}
	full := with([][]string{{strings.Repeat("x", 100)}})
	full.Segs = slices.Repeat(full.Segs, 6000)
	for i, x := range []struct {
		l    []segment.Message
		want api.Errno
	}{
		{append([]segment.Message{wrong}, many...), api.ErrArg},
		{append(numbered(1, 4999), wrong), api.ErrArg},
		{append(numbered(1, 4999), twice...), api.ErrArg},
		{append(numbered(30000, 0), wrong), api.ErrArg},
		{append(numbered(30000, 0), twice...), api.ErrArg},
		{append(ofLength(67000), wrong), api.ErrArg},
		{append(ofLength(67000), twice...), api.ErrArg},
		{append(long, many...), api.ErrMany},
		{append(numbered(1, 4999), long...), api.ErrMany},
		{[]segment.Message{full}, api.ErrMany},
		{long, api.ErrLong},
	} {
		if text, e := segment.Write(x.l); text != "" || e != x.want {
			t.Error(i, len(text), e)
		}
	}
}
