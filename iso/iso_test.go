package iso_test

import (
	"math/rand"
	"regexp"
	"slices"
	"strings"
	"testing"

	"twistlock/api"
	"twistlock/iso"
)

const letters = "ABCDEFGHIJKLMNOPQRSTUVWXYZ"

// values returns the values of all bytes that have one.
func values() map[byte]int {
	of := map[byte]int{}
	for i := range 10 {
		of['0'+byte(i)] = i
	}
	for i, v := range []int{10, 12, 13, 14, 15, 16, 17, 18, 19, 20, 21, 23, 24, 25, 26, 27, 28, 29, 30, 31, 32, 34, 35, 36, 37, 38} {
		of[letters[i]] = v
	}
	return of
}

// remainderOf returns the remainder of a payload, from its last byte on.
func remainderOf(payload string) int {
	of, rest := values(), 0
	for i := len(payload) - 1; i >= 0; i-- {
		rest = (2*rest + of[payload[i]]) % 11
	}
	return rest
}

// digitOf returns the check digit of a payload.
func digitOf(payload string) byte {
	return "01234567890"[remainderOf(payload)]
}

// sameDigit reports whether payloads have remainders that are the same, or are 0 and 10.
func sameDigit(one, other string) bool {
	a, b := remainderOf(one), remainderOf(other)
	return a == b || a == 0 && b == 10 || a == 10 && b == 0
}

var (
	payloadForm = regexp.MustCompile(`\A[A-Z]{3}[UJZ][0-9]{6}\z`)
	numberForm  = regexp.MustCompile(`\A[A-Z]{3}[UJZ][0-9]{7}\z`)
)

// somePayload returns a payload.
func somePayload(r *rand.Rand) string {
	b := make([]byte, 10)
	for i := range b {
		from := "0123456789"
		if i < 3 {
			from = letters
		} else if i == 3 {
			from = "UJZ"
		}
		b[i] = from[r.Intn(len(from))]
	}
	return string(b)
}

// someNumber returns a right number.
func someNumber(r *rand.Rand) string {
	payload := somePayload(r)
	return payload + string([]byte{digitOf(payload)})
}

// put returns a string with another byte at a position.
func put(s string, at int, to byte) string {
	b := []byte(s)
	b[at] = to
	return string(b)
}

// noNumbers returns strings that are no numbers, nor payloads.
func noNumbers() []string {
	return []string{
		"", " ", "0", "C", "CSQU", "3054383", "CSQU30543", "CSQU30543833", "CSQU305438333", "CCSQU3054383", "CSQUU3054383",
		"CSQ3054383", "CSQU 305438", "CSQU 305438 3", "CSQU-305438-3", " CSQU305438", "CSQU305438 ", " CSQU3054383", "CSQU3054383 ", "CSQU3054383\n", "CSQU3054383\x00",
		"csqu305438", "csqu3054383", "cSQU305438", "CSQu3054383", "CSQX305438", "CSQX3054383", "CSQA305438", "CSQV3054383", "CSQ\x003054383", "CSQ3305438", "CS1U305438", "1SQU3054383",
		"CSQUO05438", "CSQUO054383", "CSQU30543A", "CSQU305438A", "CSQU30543833333333", "CSQU+05438", "CSQU-054383", "CSQU3054.8", "CSQU3054.83",
		"\xff\xff\xff\xff\xff\xff\xff\xff\xff\xff", "\xff\xff\xff\xff\xff\xff\xff\xff\xff\xff\xff", "CSQU30543\u0663", "\u0421SQU305438", "CSQU305438\u0663", "\u212aSQU30543", "\u017fSQU305438",
		strings.Repeat("A", 10), strings.Repeat("A", 11), strings.Repeat("U", 11), strings.Repeat("0", 10), strings.Repeat("0", 11), strings.Repeat("CSQU3054383", 2), strings.Repeat("0", 1000000),
	}
}

// P3.1

func TestValue(t *testing.T) {
	of := values()
	if len(of) != 36 {
		t.Fatal(len(of))
	}
	for i := range 256 {
		want, known := of[byte(i)]
		if v, ok := iso.Value(byte(i)); v != want || ok != known {
			t.Errorf("%q %d %t", byte(i), v, ok)
		}
	}
}

func TestCheck(t *testing.T) {
	for _, x := range []struct {
		payload string
		want    byte
	}{
		{"CSQU305438", '3'},
		{"AAAU000000", '7'},
		{"AAAU000001", '2'},
		{"AAAJ000000", '0'}, // the remainder is 10
		{"AAAZ000000", '0'},
		{"AAAU000010", '0'},
		{"ZZZZ999999", '6'},
		{"AAAU100000", '1'},
	} {
		if d, e := iso.Check(x.payload); d != x.want || e != api.OK || digitOf(x.payload) != x.want {
			t.Errorf("%s: %q %d, by hand %q", x.payload, d, e, digitOf(x.payload))
		}
	}
	if remainderOf("AAAJ000000") != 10 || remainderOf("AAAZ000000") != 0 {
		t.Error("no example has the remainder 10, or 0")
	}
}

func TestCheckOfAnyPayload(t *testing.T) {
	r := rand.New(rand.NewSource(1))
	met := map[int]int{}
	for range 20000 {
		payload := somePayload(r)
		met[remainderOf(payload)]++
		if d, e := iso.Check(payload); d != digitOf(payload) || e != api.OK {
			t.Errorf("%s: %q %d", payload, d, e)
		}
	}
	if len(met) != 11 {
		t.Error(met)
	}
}

func TestCheckErrors(t *testing.T) {
	for _, s := range append(noNumbers(), "CSQU3054383", "CSQU3054384") {
		if d, e := iso.Check(s); d != 0 || e != iso.ErrNumber {
			t.Errorf("%.40q %q %d", s, d, e)
		}
	}
}

func TestCheckOfAnyByte(t *testing.T) {
	for _, payload := range []string{"CSQU305438", "AAAJ000000", "ZZZZ999999"} {
		for at := range payload {
			for to := range 256 {
				s := put(payload, at, byte(to))
				want, wrong := digitOf(s), api.OK
				if !payloadForm.MatchString(s) {
					want, wrong = 0, iso.ErrNumber
				}
				if d, e := iso.Check(s); d != want || e != wrong {
					t.Errorf("%q: %q %d", s, d, e)
				}
			}
		}
	}
}

func TestRight(t *testing.T) {
	for _, s := range []string{"CSQU3054383", "AAAU0000007", "AAAJ0000000", "AAAZ0000000", "ZZZZ9999996"} {
		if !iso.Right(s) {
			t.Error(s)
		}
	}
	for _, s := range append(noNumbers(), "CSQU305438", "CSQU3054380", "CSQU3054382", "CSQU3054384", "SCQU3054383", "AAAJ0000001", "CSQJ3054383") {
		if iso.Right(s) {
			t.Errorf("%.40q", s)
		}
	}
}

func TestRightOfAnyByte(t *testing.T) {
	for _, number := range []string{"CSQU3054383", "AAAJ0000000", "ZZZZ9999996"} {
		for at := range number {
			for to := range 256 {
				s := put(number, at, byte(to))
				want := numberForm.MatchString(s) && digitOf(s[:10]) == s[10]
				if iso.Right(s) != want {
					t.Errorf("%q %t", s, !want)
				}
			}
		}
	}
}

// P3.2

func TestRead(t *testing.T) {
	for _, x := range []struct{ text, want string }{
		{"CSQU3054383", "CSQU3054383"},
		{"csqu 305438-3", "CSQU3054383"},
		{"csqu3054383", "CSQU3054383"},
		{"CsQu 305438 3", "CSQU3054383"},
		{"-C-S-Q-U- -3-0-5-4-3-8- -3-", "CSQU3054383"},
		{"aaaj 000000 0", "AAAJ0000000"},
		{"zzzz 999999 6", "ZZZZ9999996"},
		{"   CSQU  305438--3   ", "CSQU3054383"},
		{"CSQU3054383" + strings.Repeat("-", 29), "CSQU3054383"},
		{strings.Repeat(" ", 29) + "csqu3054383", "CSQU3054383"},
	} {
		if s, e := iso.Read(x.text); s != x.want || e != api.OK {
			t.Errorf("%q: %q %d", x.text, s, e)
		}
	}
}

func TestReadErrors(t *testing.T) {
	for _, x := range []struct {
		text string
		want api.Errno
	}{
		{strings.Repeat(" ", 41), api.ErrLong},
		{strings.Repeat(" ", 40), iso.ErrNumber},
		{strings.Repeat("-", 1000000), api.ErrLong},
		{strings.Repeat("?", 41), api.ErrLong},
		{strings.Repeat("?", 40), iso.ErrNumber},
		{"CSQU3054383" + strings.Repeat(" ", 30), api.ErrLong},
		{"CSQU3054384" + strings.Repeat(" ", 30), api.ErrLong},
		{"CSQU3054384" + strings.Repeat(" ", 29), iso.ErrCheck},
		{"CSQX3054384" + strings.Repeat(" ", 29), iso.ErrNumber},
		{"CSQX3054383", iso.ErrNumber},
		{"csqx 305438 3", iso.ErrNumber},
		{"CSQU3054384", iso.ErrCheck},
		{"csqu 305438-4", iso.ErrCheck},
		{"AAAJ000000 1", iso.ErrCheck},
		{"CSQU305438", iso.ErrNumber},
		{"CSQU 305438", iso.ErrNumber},
		{"CSQU 305438 33", iso.ErrNumber},
		{"CSQU\t305438\t3", iso.ErrNumber},
		{"CSQU\n3054383", iso.ErrNumber},
		{"CSQU_305438_3", iso.ErrNumber},
		{"CSQU.3054383", iso.ErrNumber},
		{"CSQU\x003054383", iso.ErrNumber},
		{"CSQU\u00a03054383", iso.ErrNumber},
		{"CSQU\u20113054383", iso.ErrNumber},
		{"C\u017fQU3054383", iso.ErrNumber},
		{"\u212aSQU3054383", iso.ErrNumber},
		{"\xff\xfe", iso.ErrNumber},
		{"", iso.ErrNumber},
		{" - ", iso.ErrNumber},
	} {
		if s, e := iso.Read(x.text); s != "" || e != x.want {
			t.Errorf("%.50q: %q %d", x.text, s, e)
		}
	}
}

func TestReadLeavesOutBlanksAndHyphensAlone(t *testing.T) {
	for at := range len("CSQU3054383") + 1 {
		for b := range 256 {
			text := "CSQU3054383"[:at] + string([]byte{byte(b)}) + "CSQU3054383"[at:]
			want, wrong := "", iso.ErrNumber
			if b == 32 || b == 45 {
				want, wrong = "CSQU3054383", api.OK
			}
			if s, e := iso.Read(text); s != want || e != wrong {
				t.Errorf("%q: %q %d", text, s, e)
			}
		}
	}
}

func TestReadOfAnyByte(t *testing.T) {
	for _, number := range []string{"CSQU3054383", "AAAJ0000000", "ZZZZ9999996"} {
		for at := range number {
			for to := range 256 {
				text := put(number, at, byte(to))
				capital := text
				if 'a' <= to && to <= 'z' {
					capital = put(number, at, byte(to-32))
				}
				want, wrong := capital, api.OK
				if !numberForm.MatchString(capital) {
					want, wrong = "", iso.ErrNumber
				} else if digitOf(capital[:10]) != capital[10] {
					want, wrong = "", iso.ErrCheck
				}
				if s, e := iso.Read(text); s != want || e != wrong {
					t.Errorf("%q: %q %d", text, s, e)
				}
			}
		}
	}
}

func TestReadOfAnyWriting(t *testing.T) {
	r := rand.New(rand.NewSource(2))
	for range 5000 {
		number := someNumber(r)
		var text []byte
		for i := range len(number) {
			for r.Intn(2) == 0 {
				text = append(text, " -"[r.Intn(2)])
			}
			text = append(text, number[i])
			if r.Intn(2) == 0 && i < 4 {
				text[len(text)-1] += 'a' - 'A'
			}
		}
		want, wrong := number, api.OK
		if len(text) > 40 {
			want, wrong = "", api.ErrLong
		}
		if s, e := iso.Read(string(text)); s != want || e != wrong {
			t.Errorf("%q: %q %d", text, s, e)
		}
	}
}

func TestWrite(t *testing.T) {
	for _, x := range []struct{ number, want string }{
		{"CSQU3054383", "CSQU 305438 3"},
		{"AAAU0000007", "AAAU 000000 7"},
		{"AAAJ0000000", "AAAJ 000000 0"},
		{"ZZZZ9999996", "ZZZZ 999999 6"},
	} {
		if s, e := iso.Write(x.number); s != x.want || e != api.OK {
			t.Errorf("%s: %q %d", x.number, s, e)
		}
	}
}

// wrongNumbers returns what strings that are not right numbers are refused with.
func wrongNumbers() map[string]api.Errno {
	refused := map[string]api.Errno{"CSQU305438": iso.ErrNumber, "CSQX3054384": iso.ErrNumber}
	for _, s := range noNumbers() {
		refused[s] = iso.ErrNumber
	}
	for _, s := range []string{"CSQU3054380", "CSQU3054382", "CSQU3054384", "CSQU3054389", "SCQU3054383", "AAAJ0000001", "CSQJ3054383"} {
		refused[s] = iso.ErrCheck
	}
	return refused
}

func TestWriteErrors(t *testing.T) {
	for number, want := range wrongNumbers() {
		if s, e := iso.Write(number); s != "" || e != want {
			t.Errorf("%.40q: %q %d", number, s, e)
		}
	}
}

// P3.3

// missesOf returns the missed errors of a right number, found among all strings that differ from it in one byte.
func missesOf(number string) []iso.Miss {
	var missed []iso.Miss
	for at := range number {
		for to := range 256 {
			s := put(number, at, byte(to))
			if s != number && numberForm.MatchString(s) && digitOf(s[:10]) == s[10] {
				missed = append(missed, iso.Miss{At: at, To: byte(to)})
			}
		}
	}
	return missed
}

func TestMisses(t *testing.T) {
	for _, x := range []struct {
		number string
		want   []iso.Miss
	}{
		{"CSQU3054383", []iso.Miss{{0, 'M'}, {0, 'W'}, {1, 'I'}, {2, 'G'}}},
		{"AAAU0000007", []iso.Miss{{0, 'K'}, {0, 'U'}, {1, 'K'}, {1, 'U'}, {2, 'K'}, {2, 'U'}}},
		// J and Z are worth 20 and 38: eight times their difference is 1 modulo 11.
		{"AAAJ0000000", missesOf("AAAJ0000000")},
		{"AAAZ0000000", missesOf("AAAZ0000000")},
	} {
		if l, e := iso.Misses(x.number); !slices.Equal(l, x.want) || e != api.OK {
			t.Error(x.number, l, e)
		}
	}
	if l, _ := iso.Misses("AAAJ0000000"); !slices.Contains(l, iso.Miss{At: 3, To: 'Z'}) || slices.Contains(l, iso.Miss{At: 3, To: 'U'}) {
		t.Error(l)
	}
	if l, _ := iso.Misses("AAAZ0000000"); !slices.Contains(l, iso.Miss{At: 3, To: 'J'}) || slices.Contains(l, iso.Miss{At: 3, To: 'U'}) {
		t.Error(l)
	}
}

func TestMissesOfAnyNumber(t *testing.T) {
	r := rand.New(rand.NewSource(3))
	for range 200 {
		number := someNumber(r)
		if l, e := iso.Misses(number); !slices.Equal(l, missesOf(number)) || e != api.OK {
			t.Error(number, l, e)
		}
	}
}

func TestMissesErrors(t *testing.T) {
	for number, want := range wrongNumbers() {
		if l, e := iso.Misses(number); len(l) != 0 || e != want {
			t.Errorf("%.40q: %v %d", number, l, e)
		}
	}
}

func TestMissesShareNoMemory(t *testing.T) {
	first, _ := iso.Misses("CSQU3054383")
	second, _ := iso.Misses("CSQU3054383")
	for i := range first {
		first[i] = iso.Miss{}
	}
	if !slices.Equal(second, missesOf("CSQU3054383")) {
		t.Error(second)
	}
}

// P3.5

func TestEachPayloadHasOneCheckDigit(t *testing.T) {
	r := rand.New(rand.NewSource(4))
	for range 2000 {
		payload := somePayload(r)
		d, e := iso.Check(payload)
		for last := range 256 {
			if iso.Right(payload+string([]byte{byte(last)})) != (byte(last) == d) || e != api.OK {
				t.Errorf("%s %q %q %d", payload, d, byte(last), e)
			}
		}
	}
}

func TestWhatIsWrittenIsReadAsItWas(t *testing.T) {
	r := rand.New(rand.NewSource(5))
	for range 5000 {
		number := someNumber(r)
		text, e := iso.Write(number)
		back, f := iso.Read(text)
		low, g := iso.Read(strings.ToLower(text))
		if back != number || low != number || e != api.OK || f != api.OK || g != api.OK {
			t.Errorf("%s: %q %s %s %d %d %d", number, text, back, low, e, f, g)
		}
	}
}

func TestWhichErrorsAreMissed(t *testing.T) {
	r := rand.New(rand.NewSource(6))
	missedDigits := 0
	for range 500 {
		number := someNumber(r)
		missed, _ := iso.Misses(number)
		for at := range 10 {
			for to := range 256 {
				s := put(number, at, byte(to))
				if s == number || !numberForm.MatchString(s) {
					continue
				}
				want := sameDigit(number[:10], s[:10])
				if slices.Contains(missed, iso.Miss{At: at, To: byte(to)}) != want || iso.Right(s) != want {
					t.Errorf("%s %s %v", number, s, missed)
				}
			}
		}
		for _, m := range missed {
			if m.At == 10 {
				t.Error(number, missed)
			}
			if m.At >= 4 {
				missedDigits++
				if remainderOf(put(number, m.At, m.To)[:10])%10 != 0 || remainderOf(number[:10])%10 != 0 {
					t.Error(number, m)
				}
			}
		}
	}
	if missedDigits == 0 {
		t.Error("no error in a digit was missed")
	}
}

func TestWhichExchangesAreMissed(t *testing.T) {
	r := rand.New(rand.NewSource(7))
	missed, found := 0, 0
	for range 5000 {
		number := someNumber(r)
		i, j := r.Intn(10), r.Intn(10)
		s := put(put(number, i, number[j]), j, number[i])
		if !numberForm.MatchString(s) || s == number {
			continue
		}
		want := sameDigit(number[:10], s[:10])
		if _, e := iso.Read(s); iso.Right(s) != want || (e == api.OK) != want {
			t.Error(number, s, e)
		}
		if want {
			missed++
		} else {
			found++
		}
	}
	if missed == 0 || found == 0 {
		t.Error(missed, found)
	}
}
