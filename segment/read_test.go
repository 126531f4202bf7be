package segment_test

import (
	"math/rand"
	"regexp"
	"slices"
	"strconv"
	"strings"
	"testing"

	"twistlock/api"
	"twistlock/lex"
	"twistlock/segment"
)

// reference reads texts without releases: each segment as one string, held against patterns.
type reference struct{ head, trailer, tag *regexp.Regexp }

func newReference() reference {
	return reference{
		regexp.MustCompile(`^HED\+([A-Z0-9]{1,14})\+([A-Z]{6})$`),
		regexp.MustCompile(`^END\+([1-9][0-9]*)\+([A-Z0-9]+)$`),
		regexp.MustCompile(`^[A-Z]{3}(\+|$)`),
	}
}

// trimText leaves out of the text of a segment what is empty at the ends.
func trimText(text string) string {
	elements := strings.Split(text, "+")
	for i, element := range elements {
		elements[i] = strings.TrimRight(element, ":")
	}
	return strings.TrimRight(strings.Join(elements, "+"), "+")
}

// segmentOf returns the segment that a trimmed text is.
func segmentOf(text string) segment.Seg {
	tag, rest, more := strings.Cut(text, "+")
	s := segment.Seg{Tag: tag}
	if more {
		for _, element := range strings.Split(rest, "+") {
			s.Data = append(s.Data, strings.Split(element, ":"))
		}
	}
	return s
}

// read returns what segment.Read should return of segments, each of them a text without its '.
func (x reference) read(texts []string) ([]segment.Message, int, api.Errno) {
	var l []segment.Message
	opened := -1
	for i, text := range texts {
		text = trimText(text)
		first, _, _ := strings.Cut(text, "+")
		head, trailer := x.head.FindStringSubmatch(text), x.trailer.FindStringSubmatch(text)
		switch {
		case (first == "HED") != (opened < 0) || first == "HED" && head == nil:
			return nil, i, segment.ErrHead
		case first == "HED":
			if slices.ContainsFunc(l, func(m segment.Message) bool { return m.Ref == head[1] }) {
				return nil, i, segment.ErrRef
			}
			l, opened = append(l, segment.Message{Ref: head[1], Kind: head[2]}), i
		case first == "END":
			if trailer == nil || trailer[1] != strconv.Itoa(i-opened+1) || trailer[2] != l[len(l)-1].Ref {
				return nil, i, segment.ErrEnd
			}
			opened = -1
		case !x.tag.MatchString(text):
			return nil, i, segment.ErrTag
		default:
			l[len(l)-1].Segs = append(l[len(l)-1].Segs, segmentOf(text))
		}
	}
	if opened >= 0 {
		return nil, len(texts), segment.ErrEnd
	}
	return l, 0, api.OK
}

// checkRead compares what is read of segments with the reference.
func checkRead(t *testing.T, x reference, texts []string) api.Errno {
	t.Helper()
	want, wantAt, wrong := x.read(texts)
	var text strings.Builder
	for _, s := range texts {
		text.WriteString(s + "'\n")
	}
	l, at, e := segment.Read(text.String())
	if !same(l, want) || at != wantAt || e != wrong {
		t.Errorf("%q: %q %d %d, not %q %d %d", short(text.String()), l, at, e, want, wantAt, wrong)
	}
	return e
}

// fails checks that a text is not read, for one reason at one index or position.
func fails(t *testing.T, text string, wantAt int, want api.Errno) {
	t.Helper()
	if l, at, e := segment.Read(text); len(l) != 0 || at != wantAt || e != want {
		t.Errorf("%q: %q %d %d, not %d %d", short(text), l, at, e, wantAt, want)
	}
}

// P5.3

func TestRead(t *testing.T) {
	read := mapData([]segment.Message{example()}, trimmed)
	for _, x := range []struct {
		text string
		want []segment.Message
	}{
		{"", nil},
		{" \r\n", nil},
		{exampleText, read},
		{"\nHED+V1+BAYPLN'\r\nLOC+147+0010182'\r\nEQD+CN+CSQU3054383'\r\nEND+4+V1'\r\n", read},
		{"HED+1+ABCDEF'END+2+1'", []segment.Message{message("ABCDEF", "1")}},
		{"HED+2+ABCDEF'END+2+2'HED+1+ABCDEF'ABC'END+3+1'", []segment.Message{message("ABCDEF", "2"), message("ABCDEF", "1", "ABC")}},
		{"HED+1+ABCDEF'END+2+1'HED+01+ABCDEF'END+2+01'", []segment.Message{message("ABCDEF", "1"), message("ABCDEF", "01")}},
		{"HED+09AZ09AZ09AZ09+AZAZAZ'AAA'ZZZ'END+4+09AZ09AZ09AZ09'", []segment.Message{message("AZAZAZ", "09AZ09AZ09AZ09", "AAA", "ZZZ")}},
		{"HED+HED+HEDEND'HEE'ENE'HHD'END+5+HED'", []segment.Message{message("HEDEND", "HED", "HEE", "ENE", "HHD")}},
		{"HED+END+ENDHED'END+2+END'", []segment.Message{message("ENDHED", "END")}},
		{"HED+2+ABCDEF'END+2+2'", []segment.Message{message("ABCDEF", "2")}},
		{"HED:+1::+ABCDEF:+:+'ABC::'DEF++:'END:+4:::+1:+++'", []segment.Message{message("ABCDEF", "1", "ABC", "DEF")}},
		{"HED+1+ABCDEF'ABC+a:+:b:'END+3+1'", []segment.Message{with(data("a/,b"))}},
		{"HED+1+ABCDEF'ABC:+:+:::+c:::'END+3+1'", []segment.Message{with(data("//c"))}},
		{"HED+1+ABCDEF'ABC+HED'END+3+1'", []segment.Message{with(data("HED"))}},
		{"HED+1+ABCDEF'ABC+END+3+1'END+3+1'", []segment.Message{with(data("END/3/1"))}},
		{"HED+1+ABCDEF'ABC+?'?+:?:??+ x'END+3+1'", []segment.Message{with([][]string{{"'+", ":?"}, {" x"}})}},
		{"HED+1+ABCDEF'ABC++++ '\nEND+3+1'", []segment.Message{with(data("/// "))}},
	} {
		if l, at, e := segment.Read(x.text); !same(l, x.want) || at != 0 || e != api.OK {
			t.Errorf("%q: %q %d %d", x.text, l, at, e)
		}
	}
}

func TestReadOfTheExamples(t *testing.T) {
	fails(t, strings.Replace(exampleText, "END+4", "END+5", 1), 3, segment.ErrEnd)
	fails(t, strings.TrimPrefix(exampleText, "HED+V1+BAYPLN'"), 0, segment.ErrHead)
	fails(t, strings.Replace(exampleText, "LOC", "LO", 1), 1, segment.ErrTag)
	fails(t, exampleText+exampleText, 4, segment.ErrRef)
}

func TestReadHeads(t *testing.T) {
	for _, head := range []string{
		"HED", "HED+1", "HED++ABCDEF", "HED+1+", "HED+1++ABCDEF", "HED++1+ABCDEF", "HED+ABCDEF+1", "HED+1+ABCDEF+X", "HED+1+ABCDEF++X", "HED+1+ABCDEF+:X",
		"HED:X+1+ABCDEF", "HED::X+1+ABCDEF", "HED+1:X+ABCDEF", "HED+1::X+ABCDEF", "HED+:1+ABCDEF", "HED+1+ABCDEF:X", "HED+1+:ABCDEF", "HED:1:ABCDEF", ":HED+1+ABCDEF", "+HED+1+ABCDEF",
		"HED+1+ABCDE", "HED+1+ABCDEFG", "HED+1+ABCDEf", "HED+1+ABCDE1", "HED+1+ABC EF", "HED+1+ABCDE ",
		"HED+a+ABCDEF", "HED+123456789012345+ABCDEF", "HED+-1+ABCDEF", "HED+1 +ABCDEF", "HED+ 1+ABCDEF", "HED+?++ABCDEF", "HED+V?'1+ABCDEF",
		"hed+1+ABCDEF", "HE+1+ABCDEF", "HEDD+1+ABCDEF", "HED +1+ABCDEF", "? HED+1+ABCDEF", "ABC", "ABC+1", "ABC+1+ABCDEF", "END", "END+2+1", "END+1+1", "END+0+", "LO", "abc", "", "+", ":", "+++:", "+HED",
	} {
		fails(t, head+"'", 0, segment.ErrHead)
		fails(t, head+"'END+2+1'", 0, segment.ErrHead)
		fails(t, exampleText+head+"'END+2+1'", 4, segment.ErrHead)
	}
}

func TestReadHeadsInMessages(t *testing.T) {
	for _, head := range []string{"HED", "HED+2+ABCDEF", "HED+1+ABCDEF", "HED:", "HED+", "HED+3+1", "HED++"} {
		fails(t, "HED+1+ABCDEF'"+head+"'END+3+1'", 1, segment.ErrHead)
		fails(t, "HED+1+ABCDEF'ABC'"+head+"'END+4+1'", 2, segment.ErrHead)
		fails(t, "HED+1+ABCDEF'END+2+1'HED+2+ABCDEF'"+head+"'", 3, segment.ErrHead)
	}
}

func TestReadTrailers(t *testing.T) {
	for _, trailer := range []string{
		"END", "END+3", "END++1", "END+3+", "END+1+3", "END+3++1", "END++3+1", "END+3+1+X", "END+3+1++X", "END+3+1+:X",
		"END+3:X+1", "END+3::X+1", "END+:3+1", "END+3+1:X", "END+3+:1",
		"END+2+1", "END+4+1", "END+0+1", "END+1+1", "END+5+1", "END+03+1", "END+003+1", "END+ 3+1", "END+3 +1", "END+?+3+1", "END+-3+1", "END+3.0+1", "END+0x3+1", "END+33+1", "END+A+1", "END+18446744073709551619+1",
		"END+3+2", "END+3+01", "END+3+11", "END+3+1 ", "END+3+ 1", "END+3+V1", "END+3+ABCDEF", "END+3+END",
	} {
		fails(t, "HED+1+ABCDEF'ABC'"+trailer+"'", 2, segment.ErrEnd)
		fails(t, "HED+1+ABCDEF'ABC'"+trailer+"'HED+2+ABCDEF'END+2+2'", 2, segment.ErrEnd)
		fails(t, "HED+2+ABCDEF'END+2+2'HED+1+ABCDEF'ABC'"+trailer+"'", 4, segment.ErrEnd)
	}
	for _, trailer := range []string{"END+3+1", "END:+3:+1:", "END+3+1+", "END+3+1::+:+"} {
		if l, at, e := segment.Read("HED+1+ABCDEF'ABC'" + trailer + "'"); !same(l, []segment.Message{message("ABCDEF", "1", "ABC")}) || at != 0 || e != api.OK {
			t.Errorf("%q: %q %d %d", trailer, l, at, e)
		}
	}
}

func TestReadTags(t *testing.T) {
	for _, s := range []string{
		"", "+", ":", "+:+", "A", "LO", "LO+1", "LOCS", "abc", "ABc", "A1C", "AB ", "AB?'", "? AB", "123",
		"ABC:X", "ABC::X", ":ABC", "ABC:DEF", "+ABC", "++ABC", "HED:X", "HED:1:ABCDEF", "HED::X+1+ABCDEF", "END:X", "END:3:1", "END::X+3+1", ":END", "+END+3+1", ":HED", "HEDX", "EN", "end+3+1", "hed",
	} {
		fails(t, "HED+1+ABCDEF'"+s+"'END+3+1'", 1, segment.ErrTag)
		fails(t, "HED+1+ABCDEF'ABC'"+s+"'", 2, segment.ErrTag)
		fails(t, "HED+1+ABCDEF'END+2+1'HED+2+ABCDEF'"+s+"'", 3, segment.ErrTag)
	}
}

func TestReadTagsOfAnyByte(t *testing.T) {
	for b := 32; b <= 126; b++ {
		as := string([]byte{byte(b)})
		if strings.Contains("'+:?", as) {
			as = "?" + as
		}
		capital, digit := 'A' <= b && b <= 'Z', '0' <= b && b <= '9'
		for at := range 3 {
			e := api.OK
			if !capital {
				e = segment.ErrTag
			}
			text := "ABC"[:at] + as + "ABC"[at+1:]
			if as == " " && at == 0 {
				text = "?" + text
			}
			if _, _, got := segment.Read("HED+1+ABCDEF'" + text + "'END+3+1'"); got != e {
				t.Errorf("%q: %d", text, got)
			}
		}
		for text, right := range map[string]bool{"1+ABCDE" + as: capital, "1+" + as + "BCDEF": capital, as + "+ABCDEF": capital || digit, "A0" + as + "+ABCDEF": capital || digit} {
			e := segment.ErrHead
			if right {
				e = segment.ErrEnd
			}
			if l, _, got := segment.Read("HED+" + text + "'"); len(l) != 0 || got != e {
				t.Errorf("%q: %d", text, got)
			}
		}
	}
}

func TestReadOpenMessages(t *testing.T) {
	fails(t, "HED+1+ABCDEF'", 1, segment.ErrEnd)
	fails(t, "HED+1+ABCDEF' \r\n", 1, segment.ErrEnd)
	fails(t, "HED+1+ABCDEF'ABC'DEF'", 3, segment.ErrEnd)
	fails(t, exampleText+"HED+1+ABCDEF'", 5, segment.ErrEnd)
	fails(t, exampleText+"HED+1+ABCDEF'ABC'", 6, segment.ErrEnd)
	fails(t, "HED+1+ABCDEF'"+strings.Repeat("ABC'", 4999), 5000, segment.ErrEnd)
}

func TestReadReferencesThatWereMet(t *testing.T) {
	one, two := "HED+1+ABCDEF'END+2+1'", "HED+2+ABCDEF'END+2+2'"
	fails(t, one+one, 2, segment.ErrRef)
	fails(t, one+"HED+1+FEDCBA'ABC'END+3+1'", 2, segment.ErrRef)
	fails(t, one+"HED:+1:+ABCDEF:'", 2, segment.ErrRef)
	fails(t, one+two+one, 4, segment.ErrRef)
	fails(t, one+two+two, 4, segment.ErrRef)
	fails(t, one+"HED+1+ABCDEF'LO'", 2, segment.ErrRef)
	// A message that is open is no earlier one.
	fails(t, "HED+1+ABCDEF'HED+1+ABCDEF'", 1, segment.ErrHead)
	// What one call has met is no matter to another one.
	for range 2 {
		if l, at, e := segment.Read(one + two); len(l) != 2 || at != 0 || e != api.OK {
			t.Errorf("%q %d %d", l, at, e)
		}
	}
}

// The errors of package lex come first, wherever they are, with their positions in bytes.
func TestReadErrorsOfLex(t *testing.T) {
	for _, x := range []struct {
		text string
		at   int
		want api.Errno
	}{
		{"HED+1+ABCDEF'\t", 13, lex.ErrByte},
		{"HED+1+ABCDEF", 12, lex.ErrEnd},
		{"HED+1+ABCDEF'ABC+?x'END+3+1'", 17, lex.ErrRelease},
		{"HED+1+ABCDEF'ABC+" + strings.Repeat("x", 101) + "'END+3+1'", 117, api.ErrLong},
		{"HED+1+ABCDEF'ABC" + strings.Repeat("+", 30) + "'END+3+1'", 45, api.ErrMany},
		{"HED+1+ABCDEF'ABC" + strings.Repeat(":", 10) + "'END+3+1'", 25, api.ErrMany},
		{"HED+1+ABCDEF'" + strings.Repeat("ABC'", 4999) + "END+5001+1'", 13 + 4*4999, api.ErrMany},
		{strings.Repeat(" ", 65537), 0, api.ErrLong},
		{exampleText + strings.Repeat("\n", 65537-len(exampleText)), 0, api.ErrLong},
		{"LO'\t", 3, lex.ErrByte},
		{"END'ABC", 7, lex.ErrEnd},
		{"HED+1+ABCDEF'LO'END+5+2'?x'", 24, lex.ErrRelease},
		{exampleText + exampleText + "A", 2*len(exampleText) + 1, lex.ErrEnd},
		{strings.Repeat("'", 5001), 5000, api.ErrMany},
	} {
		fails(t, x.text, x.at, x.want)
		if _, at, e := lex.Read(x.text); at != x.at || e != x.want {
			t.Errorf("%q: lex says %d %d", short(x.text), at, e)
		}
	}
}

// The first error counts, and of several ones of the same segment that which is named first.
func TestReadErrorsInOrder(t *testing.T) {
	one := "HED+1+ABCDEF'END+2+1'"
	fails(t, one+"HED+1+ABCDE'", 2, segment.ErrHead)
	fails(t, one+"HED+1+ABCDEF+X'", 2, segment.ErrHead)
	fails(t, one+"HED+1:X+ABCDEF'", 2, segment.ErrHead)
	fails(t, one+"LO'", 2, segment.ErrHead)
	fails(t, one+"END+5+2'", 2, segment.ErrHead)
	fails(t, "HED+1+ABCDEF'LO'END+9+9'", 1, segment.ErrTag)
	fails(t, "HED+1+ABCDEF'LO'HED+1'", 1, segment.ErrTag)
	fails(t, "HED+1+ABCDEF'HED+1'LO'", 1, segment.ErrHead)
	fails(t, "HED+1+ABCDEF'END+3+1'LO'", 1, segment.ErrEnd)
	fails(t, "HED+1+ABCDEF'END+3+1'"+one, 1, segment.ErrEnd)
	fails(t, one+"HED+1+ABCDEF'LO'END+9+9'", 2, segment.ErrRef)
	fails(t, "LO'"+one+one, 0, segment.ErrHead)
	fails(t, "HED+1+ABCDEF'LO'", 1, segment.ErrTag)
}

func TestReadCountsSegments(t *testing.T) {
	for _, n := range []int{0, 1, 7, 8, 9, 97, 98, 99, 997, 998, 4997, 4998} {
		body := "HED+1+ABCDEF'" + strings.Repeat("ABC'", n)
		want := message("ABCDEF", "1", slices.Repeat([]string{"ABC"}, n)...)
		l, at, e := segment.Read(body + "END+" + strconv.Itoa(n+2) + "+1'")
		if !same(l, []segment.Message{want}) || at != 0 || e != api.OK {
			t.Error(n, len(l), at, e)
		}
		for _, wrong := range []int{-n - 2, 0, n, n + 1, n + 3, n + 12, 10 * (n + 2)} {
			fails(t, body+"END+"+strconv.Itoa(wrong)+"+1'", n+1, segment.ErrEnd)
		}
	}
}

// The segments of a message are counted from its own head on.
func TestReadCountsSegmentsOfEachMessage(t *testing.T) {
	for _, n := range []int{1, 2, 5, 40} {
		l := numbered(n, n)
		if back, at, e := segment.Read(written(l)); !same(back, l) || at != 0 || e != api.OK {
			t.Error(n, len(back), at, e)
		}
	}
}

// The reference says what is read of each list of up to five of these segments.
func TestReadOfEveryShortText(t *testing.T) {
	some := []string{"HED+1+ABCDEF", "HED+2+ABCDEF", "HED+1", "HED:X", "END+2+1", "END+3+1", "END+2+2", "END:+3:+2+:", "ABC", "ABC+:a:+", "LO", ""}
	x, met := newReference(), map[api.Errno]int{}
	var all func(texts []string, more int)
	all = func(texts []string, more int) {
		met[checkRead(t, x, texts)]++
		if more == 0 || t.Failed() {
			return
		}
		for _, s := range some {
			all(append(texts, s), more-1)
		}
	}
	all(nil, 5)
	for _, e := range []api.Errno{api.OK, segment.ErrTag, segment.ErrHead, segment.ErrEnd, segment.ErrRef} {
		if met[e] == 0 {
			t.Error("not met:", e)
		}
	}
}

// spoilt returns the texts of segments of which some are missing, or there twice, or have other bytes.
func spoilt(r *rand.Rand, texts []string) []string {
	l := slices.Clone(texts)
	for range r.Intn(3) {
		if len(l) == 0 {
			break
		}
		at := r.Intn(len(l))
		switch r.Intn(5) {
		case 0:
			l = slices.Delete(l, at, at+1)
		case 1:
			l = slices.Insert(l, at, l[r.Intn(len(l))])
		case 2:
			cut := r.Intn(len(l[at]) + 1)
			l[at] = l[at][:cut] + []string{"+", ":", "A", "1", "a", "++", "END", "HED"}[r.Intn(8)] + l[at][cut:]
		case 3:
			cut := r.Intn(len(l[at]) + 1)
			l[at] = l[at][:cut] + l[at][min(cut+1, len(l[at])):]
		case 4:
			l = append(l, l[at:]...)
		}
	}
	return l
}

func TestReadOfSpoiltTexts(t *testing.T) {
	r := rand.New(rand.NewSource(2))
	x, met := newReference(), map[api.Errno]int{}
	for range 20000 {
		var texts []string
		for i := range 1 + r.Intn(3) {
			ref, n := strconv.Itoa(1+i), r.Intn(4)
			texts = append(texts, "HED+"+ref+"+ABCDEF")
			for range n {
				texts = append(texts, "ABC"+someLetters(r, "+:ab", r.Intn(6)))
			}
			texts = append(texts, "END+"+strconv.Itoa(n+2)+"+"+ref)
		}
		met[checkRead(t, x, spoilt(r, texts))]++
	}
	for _, e := range []api.Errno{api.OK, segment.ErrTag, segment.ErrHead, segment.ErrEnd, segment.ErrRef} {
		if met[e] < 100 {
			t.Error("hardly met:", e, met[e])
		}
	}
}

func TestReadSharesNoMemory(t *testing.T) {
	r := rand.New(rand.NewSource(3))
	for range 300 {
		want := mapData(someMessages(r, 4), segment.Trim)
		text := written(want)
		l, _, _ := segment.Read(text)
		other, _, _ := segment.Read(text)
		// What is appended must not appear in another slice of the result.
		for _, m := range l {
			_ = append(m.Segs, segment.Seg{Tag: "SPA"})
			for _, s := range m.Segs {
				_ = append(s.Data, []string{"spare"})
				for _, element := range s.Data {
					_ = append(element, "spare")
				}
			}
		}
		if !same(l, want) {
			t.Errorf("%q", l)
		}
		for i, m := range l {
			for j, s := range m.Segs {
				for k, element := range s.Data {
					for n := range element {
						element[n] = "changed"
					}
					want[i].Segs[j].Data[k] = slices.Repeat([]string{"changed"}, len(element))
					if !same(l, want) {
						t.Errorf("%d %d %d: %q", i, j, k, l)
					}
				}
			}
		}
		if written(other) != text {
			t.Errorf("%q", other)
		}
	}
}

// P5.4

func TestWhatIsWrittenIsReadAsItWas(t *testing.T) {
	r := rand.New(rand.NewSource(4))
	for range 3000 {
		l := someMessages(r, 5)
		text, e := segment.Write(l)
		back, at, f := segment.Read(text)
		if !same(back, mapData(l, segment.Trim)) || e != api.OK || at != 0 || f != api.OK {
			t.Errorf("%q: %q %d %d %d", l, back, e, at, f)
		}
		for _, m := range back {
			if !segment.Right(m) {
				t.Errorf("%q is not right", m)
			}
		}
		if again, e := segment.Write(back); again != text || e != api.OK {
			t.Errorf("%q: %q %d", short(text), short(again), e)
		}
	}
}

func TestFullMessagesAreReadAsTheyWere(t *testing.T) {
	full := slices.Repeat([]string{strings.Repeat("?", 100)}, 10)
	for i, l := range [][]segment.Message{numbered(1, 4998), numbered(2500, 0), ofLength(65536), {with(slices.Repeat([][]string{full}, 29))}} {
		text, e := segment.Write(l)
		if back, at, f := segment.Read(text); !same(back, l) || e != api.OK || at != 0 || f != api.OK {
			t.Error(i, len(back), e, at, f)
		}
	}
}

func TestMessagesWithSegmentsTakenAwayOrWrittenTwice(t *testing.T) {
	r := rand.New(rand.NewSource(5))
	for range 1000 {
		text, _ := segment.Write(someMessages(r, 4))
		l, _, _ := lex.Read(text)
		for i := range l {
			away, _ := lex.Write(slices.Concat(l[:i], l[i+1:]))
			twice, _ := lex.Write(slices.Concat(l[:i], l[i:i+1], l[i:]))
			for _, spoilt := range []string{away, twice} {
				if back, _, e := segment.Read(spoilt); len(back) != 0 || e == api.OK {
					t.Errorf("%q without %d, or with it twice: %q %d", text, i, back, e)
				}
			}
		}
	}
}

func TestFieldsOfTrimmedData(t *testing.T) {
	r := rand.New(rand.NewSource(6))
	all := everyData()
	for range 1000 {
		all = append(all, someData(r))
	}
	for _, elements := range all {
		s := segment.Seg{Tag: "ABC", Data: elements}
		short := segment.Seg{Tag: "ABC", Data: segment.Trim(elements)}
		for element := -1; element < 6; element++ {
			for component := -1; component < 6; component++ {
				if a, b := segment.Field(s, element, component), segment.Field(short, element, component); a != b {
					t.Errorf("%q: %q, trimmed %q", elements, a, b)
				}
			}
		}
	}
}
