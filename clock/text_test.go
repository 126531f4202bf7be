package clock_test

import (
	"math/rand"
	"strings"
	"testing"

	"twistlock/api"
	"twistlock/clock"
)

// P2.6

func TestText(t *testing.T) {
	for _, x := range []struct {
		time int
		want string
	}{
		{0, "0 Mon 00:00"},
		{9, "0 Mon 00:09"},
		{59, "0 Mon 00:59"},
		{60, "0 Mon 01:00"},
		{1439, "0 Mon 23:59"},
		{1440, "0 Tue 00:00"},
		{2*1440 + 600, "0 Wed 10:00"},
		{3*1440 + 1, "0 Thu 00:01"},
		{4*1440 + 725, "0 Fri 12:05"},
		{5 * 1440, "0 Sat 00:00"},
		{6*1440 + 485, "0 Sun 08:05"},
		{week - 1, "0 Sun 23:59"},
		{week, "1 Mon 00:00"},
		{12*week + 4*1440 + 605, "12 Fri 10:05"},
		{last, "9920 Fri 10:40"},
	} {
		s, e := clock.Text(x.time)
		n, f := clock.Read(x.want)
		if s != x.want || n != x.time || e != api.OK || f != api.OK {
			t.Error(x, s, e, n, f)
		}
	}
	for _, time := range badTimes() {
		if s, e := clock.Text(time); s != "" || e != api.ErrArg {
			t.Error(time, s, e)
		}
	}
}

func TestReadErrors(t *testing.T) {
	for _, s := range []string{
		"", " ", "  ", ":", "0", "0 Mon", "Mon", "Mon 00:00", "00:00", "0 00:00", " Mon 00:00", "0  00:00", "0 Mon ", "0 Mon :",
		"1 Mon 0:00", "01 Mon 00:00", "1 Mon 24:00", "0 Mon 23:60", "0 Mon 00:0", "0 Mon 00:000", "0 Mon 000:00", "0 Mon 00:", "0 Mon :00",
		"-1 Mon 00:00", "+1 Mon 00:00", "-0 Mon 00:00", "1_0 Mon 00:00", "0x1 Mon 00:00", "1.0 Mon 00:00", "1e1 Mon 00:00", "a Mon 00:00",
		"0 mon 00:00", "0 MON 00:00", "0 Monday 00:00", "0 Mo 00:00", "0 Xyz 00:00", "0 0 00:00", "0 Mon, 00:00",
		"0 Mon 00.00", "0 Mon 0000", "0 Mon +1:00", "0 Mon -1:00", "0 Mon 00:+1", "0 Mon 00:-1", "0 Mon 00:00:00", "0 Mon aa:bb", "0 Mon 00 00", "0 Mon 1 :00",
		"0  Mon 00:00", "0 Mon  00:00", " 0 Mon 00:00", "0 Mon 00:00 ", "0\tMon\t00:00", "0 Mon 00:00\n", "0 Mon 00:00\x00", "0Mon 00:00", "0 Mon00:00", "0 Mon 00:00 0 Mon 00:00",
		"9920 Fri 10:41", "9920 Fri 11:00", "9920 Sat 00:00", "9921 Mon 00:00", "99999 Mon 00:00",
		"9223372036854775807 Mon 00:00", "9223372036854775808 Mon 00:00", "18446744073709551616 Mon 00:00", "1830034510657490 Mon 00:00",
		"0 Mon 18446744073709551616:00", "0 Mon 00:18446744073709551616", strings.Repeat("9", 1000000) + " Mon 00:00", strings.Repeat(" ", 1000000),
		"\u0660 Mon 00:00", "0 Mon 0\u0660:00", "\xff",
	} {
		if n, e := clock.Read(s); n != 0 || e != clock.ErrText {
			t.Errorf("%.40q %d %d", s, n, e)
		}
	}
}

func TestReadIsTheInverseOfText(t *testing.T) {
	r := rand.New(rand.NewSource(31))
	for i := range 20000 {
		time := i
		if i >= 2*week {
			time = r.Intn(last + 1)
		}
		s, e := clock.Text(time)
		n, f := clock.Read(s)
		if n != time || e != api.OK || f != api.OK {
			t.Error(time, s, e, n, f)
		}
	}
}

func TestReadTakesTextsAlone(t *testing.T) {
	r := rand.New(rand.NewSource(32))
	const signs = "0123456789 :MonTueWdhFriSatn+-"
	taken := 0
	for range 200000 {
		time := r.Intn(last + 1)
		s, _ := clock.Text(time)
		b := []byte(s)
		b[r.Intn(len(b))] = signs[r.Intn(len(signs))]
		if r.Intn(2) == 0 {
			at := r.Intn(len(b))
			b = append(b[:at], b[at+1:]...)
		}
		n, e := clock.Read(string(b))
		if e == clock.ErrText && n == 0 {
			continue
		}
		taken++
		if text, f := clock.Text(n); e != api.OK || f != api.OK || text != string(b) {
			t.Errorf("%q %d %d", b, n, e)
		}
	}
	if taken == 0 {
		t.Error("no change left a text")
	}
}
