package clock_test

import (
	"math"
	"math/rand"
	"slices"
	"testing"

	"twistlock/api"
	"twistlock/clock"
)

const (
	week = clock.WeekMinutes
	last = api.MaxTime
)

// spans returns spans from their two ends each.
func spans(ends ...int) []clock.Span {
	var l []clock.Span
	for i := 0; i < len(ends); i += 2 {
		l = append(l, clock.Span{From: ends[i], To: ends[i+1]})
	}
	return l
}

// comb returns n spans of length minutes, whose beginnings are step minutes apart.
func comb(n, first, length, step int) []clock.Span {
	var l []clock.Span
	for i := range n {
		l = append(l, clock.Span{From: first + i*step, To: first + i*step + length})
	}
	return l
}

// some returns up to n random spans that are apart, and end at limit at the latest.
func some(r *rand.Rand, n, limit int) []clock.Span {
	var l []clock.Span
	at := r.Intn(3)
	for range r.Intn(n + 1) {
		length := 1 + r.Intn(1+limit/(n+1))
		if at+length > limit {
			break
		}
		l = append(l, clock.Span{From: at, To: at + length})
		at += length + 1 + r.Intn(1+limit/(n+1))
	}
	return l
}

// has reports whether a time is in a span.
func has(l []clock.Span, time int) bool {
	return slices.ContainsFunc(l, func(s clock.Span) bool { return s.From <= time && time < s.To })
}

// minutes returns the spans that have just the times from one to another one that are in.
func minutes(from, to int, in func(int) bool) []clock.Span {
	var l []clock.Span
	for time := from; time < to; time++ {
		if !in(time) {
			continue
		}
		if n := len(l); n > 0 && l[n-1].To == time {
			l[n-1].To++
		} else {
			l = append(l, clock.Span{From: time, To: time + 1})
		}
	}
	return l
}

// wrongSpans returns lists of spans that are not apart.
func wrongSpans() [][]clock.Span {
	return [][]clock.Span{
		spans(-1, 5),
		spans(-5, -1),
		spans(5, 5),
		spans(0, 0),
		spans(7, 5),
		spans(5, last+1),
		spans(last, last+1),
		spans(0, 5, 5, 8),
		spans(0, 5, 4, 8),
		spans(10, 15, 0, 5),
		spans(0, 5, 7, 7),
		spans(0, 5, 7, 9, 9, 10),
		spans(math.MinInt, math.MaxInt),
		spans(math.MaxInt, math.MinInt),
		spans(0, math.MaxInt),
		comb(1001, 0, 1, 2),
	}
}

// wrongCalendars returns calendars that are not right.
func wrongCalendars() []clock.Calendar {
	l := []clock.Calendar{
		{Week: spans(0, week+1)},
		{Week: spans(week, week+1)},
		{Week: spans(0, 60, week-60, week+1)},
		{Week: comb(51, 0, 1, 2)},
		{Closed: comb(201, 0, 1, 2)},
		{Week: spans(0, 60), Closed: comb(201, 0, 1, 2)},
	}
	for _, s := range wrongSpans() {
		l = append(l, clock.Calendar{Week: s}, clock.Calendar{Closed: s}, clock.Calendar{Week: spans(0, 60), Closed: s})
	}
	return l
}

// port is the calendar of the chapter's examples.
func port() clock.Calendar {
	return clock.Calendar{Week: comb(5, 360, 960, 1440), Closed: spans(1800, 2000)}
}

// badTimes are numbers that are no times.
func badTimes() []int { return []int{-1, last + 1, math.MinInt, math.MaxInt} }

// badPairs are two numbers each between which nothing is asked for.
func badPairs() [][2]int {
	return [][2]int{{-1, 5}, {-5, -1}, {0, last + 1}, {last + 1, last + 1}, {5, 4}, {last, 0}, {math.MinInt, 5}, {0, math.MaxInt}}
}

// P2.1

func TestApart(t *testing.T) {
	for i, l := range [][]clock.Span{nil, {}, spans(0, 1), spans(0, last), spans(last-1, last), spans(0, 5, 6, 7), spans(360, 1320, 1800, 2760), comb(1000, 0, 1, 2)} {
		if !clock.Apart(l) {
			t.Error(i, l)
		}
	}
	for i, l := range wrongSpans() {
		if clock.Apart(l) {
			t.Error(i, l)
		}
	}
}

func TestRight(t *testing.T) {
	for i, c := range []clock.Calendar{
		{},
		{Week: []clock.Span{}, Closed: []clock.Span{}},
		port(),
		{Week: spans(0, week)},
		{Closed: spans(0, last)},
		{Week: comb(50, 0, 1, 2), Closed: comb(200, 0, 1, 2)},
		{Week: spans(0, 60, 1380, week), Closed: spans(week-5, week+5)},
	} {
		if !clock.Right(c) {
			t.Error(i, c)
		}
	}
	for i, c := range wrongCalendars() {
		if clock.Right(c) {
			t.Error(i, c)
		}
	}
}

func TestOpen(t *testing.T) {
	for _, x := range []struct {
		time int
		want bool
	}{
		{0, false}, {359, false}, {360, true}, {1319, true}, {1320, false},
		{1799, false}, {1800, false}, {1999, false}, {2000, true}, {2759, true}, {2760, false},
		{7079, true}, {7080, false}, {9000, false},
		{week + 359, false}, {week + 360, true}, {week + 1800, true},
		{last, true}, // 9920 Fri 10:40
	} {
		if is, e := clock.Open(port(), x.time); is != x.want || e != api.OK {
			t.Error(x, is, e)
		}
	}
	for _, x := range []struct {
		c    clock.Calendar
		want bool
	}{
		{clock.Calendar{}, false},
		{clock.Calendar{Closed: spans(0, 5)}, false},
		{clock.Calendar{Week: spans(0, week)}, true},
		{clock.Calendar{Week: spans(0, week), Closed: spans(0, last)}, true},
		{clock.Calendar{Week: spans(0, 4*1440+640, 4*1440+641, week)}, false},
	} {
		if is, e := clock.Open(x.c, last); is != x.want || e != api.OK {
			t.Error(x, is, e)
		}
	}
}

func TestOpenErrors(t *testing.T) {
	for i, c := range wrongCalendars() {
		if is, e := clock.Open(c, 0); is || e != api.ErrArg {
			t.Error(i, is, e)
		}
	}
	for _, time := range badTimes() {
		if is, e := clock.Open(clock.Calendar{Week: spans(0, week)}, time); is || e != api.ErrArg {
			t.Error(time, is, e)
		}
	}
}

// P2.2

func TestSpans(t *testing.T) {
	always := clock.Calendar{Week: spans(0, week)}
	around := clock.Calendar{Week: spans(0, 60, week-60, week)}
	for i, x := range []struct {
		c        clock.Calendar
		from, to int
		want     []clock.Span
	}{
		{port(), 0, 3000, spans(360, 1320, 2000, 2760)},
		{port(), 0, 2000, spans(360, 1320)},
		{port(), 400, 2001, spans(400, 1320, 2000, 2001)},
		{port(), 1320, 2000, nil},
		{port(), 7000, week + 400, spans(7000, 7080, week+360, week+400)},
		{port(), 500, 500, nil},
		{port(), last, last, nil},
		{port(), last - 100, last, spans(last-100, last)},
		{always, 0, last, spans(0, last)},
		{always, last - 1, last, spans(last-1, last)},
		{around, 0, 2 * week, spans(0, 60, week-60, week+60, 2*week-60, 2*week)},
		{around, week - 1, week + 1, spans(week-1, week+1)},
		{around, week, week + 1, spans(week, week+1)},
		{around, week - 1, week, spans(week-1, week)},
		{clock.Calendar{}, 0, last, nil},
		{clock.Calendar{Week: spans(0, week), Closed: spans(0, last)}, 0, last, nil},
		{clock.Calendar{Week: spans(0, week), Closed: spans(1, last)}, 0, last, spans(0, 1)},
		{clock.Calendar{Week: spans(0, week), Closed: spans(0, last-1)}, 0, last, spans(last-1, last)},
		{clock.Calendar{Week: spans(0, week), Closed: spans(week-5, week+5)}, 0, 2 * week, spans(0, week-5, week+5, 2*week)},
		{clock.Calendar{Week: spans(0, week), Closed: spans(week, week+5)}, 0, 2 * week, spans(0, week, week+5, 2*week)},
		{clock.Calendar{Week: spans(0, week), Closed: spans(week-5, week)}, 0, 2 * week, spans(0, week-5, week, 2*week)},
		{clock.Calendar{Week: spans(10, 20, 30, 40), Closed: spans(10, 20)}, 0, 100, spans(30, 40)},
		{clock.Calendar{Week: spans(10, 20, 30, 40), Closed: spans(15, 35)}, 0, 100, spans(10, 15, 35, 40)},
		{clock.Calendar{Week: spans(10, 20, 30, 40), Closed: spans(5, 12, 13, 14, 18, 32, 39, 50)}, 0, 100, spans(12, 13, 14, 18, 32, 39)},
	} {
		if l, e := clock.Spans(x.c, x.from, x.to); !slices.Equal(l, x.want) || e != api.OK {
			t.Error(i, l, e)
		}
	}
}

func TestSpansAreTheTimesThatAreOpen(t *testing.T) {
	r := rand.New(rand.NewSource(22))
	for i := range 300 {
		c := clock.Calendar{Week: some(r, 1+r.Intn(20), week), Closed: some(r, r.Intn(30), 3*week)}
		if r.Intn(2) == 0 && len(c.Week) > 0 {
			c.Week[len(c.Week)-1].To = week
			c.Week[0].From = 0
		}
		from := r.Intn(2 * week)
		to := from + r.Intn(2*week)
		want := minutes(from, to, func(time int) bool {
			is, e := clock.Open(c, time)
			if e != api.OK || is != (has(c.Week, time%week) && !has(c.Closed, time)) {
				t.Error(i, time, is, e)
			}
			return is
		})
		l, e := clock.Spans(c, from, to)
		if !slices.Equal(l, want) || e != api.OK || !clock.Apart(l) {
			t.Error(i, c, from, to, l, e)
		}
	}
}

func TestSpansErrors(t *testing.T) {
	for i, c := range wrongCalendars() {
		if l, e := clock.Spans(c, 0, 10); len(l) != 0 || e != api.ErrArg {
			t.Error(i, l, e)
		}
		// There would be too many, but what is not right comes first.
		c.Week = append(slices.Clone(c.Week), clock.Span{From: 3, To: 2})
		if l, e := clock.Spans(c, 0, last); len(l) != 0 || e != api.ErrArg {
			t.Error(i, l, e)
		}
	}
	for _, p := range badPairs() {
		if l, e := clock.Spans(clock.Calendar{Week: comb(50, 0, 1, 2)}, p[0], p[1]); len(l) != 0 || e != api.ErrArg {
			t.Error(p, l, e)
		}
	}
}

func TestTooManySpans(t *testing.T) {
	fifty := clock.Calendar{Week: comb(50, 0, 1, 2)}
	around := clock.Calendar{Week: spans(0, 60, week-60, week)}
	// The holes leave 140 spans of the first week; all others have 50.
	holes := clock.Calendar{Week: comb(50, 0, 20, 40), Closed: comb(200, 5, 1, 2)}
	for i, x := range []struct {
		c        clock.Calendar
		from, to int
		want     int // spans, or 0 for too many
	}{
		{fifty, 0, 20 * week, 1000},
		{fifty, 0, 20*week + 1, 0},
		{fifty, 1, 20*week + 1, 1000},
		{fifty, 0, last, 0},
		{around, 0, 999 * week, 1000},
		{around, 0, 999*week + 60, 1000},
		{around, 0, 1000*week - 60, 1000},
		{around, 0, 1000*week - 59, 0},
		{holes, 0, week, 140},
		{holes, 0, 18 * week, 990},
		{holes, 0, 18*week + 400, 1000},
		{holes, 0, 18*week + 401, 0},
	} {
		l, e := clock.Spans(x.c, x.from, x.to)
		if x.want == 0 && (len(l) != 0 || e != api.ErrMany) || x.want != 0 && (len(l) != x.want || e != api.OK) {
			t.Error(i, len(l), e)
		}
	}
}

// R3

func TestNothingIsShared(t *testing.T) {
	room := func(l []clock.Span) []clock.Span {
		l = append(l, spans(70000, 70001, 80000, 80001)...)
		return l[:len(l)-2]
	}
	a, b := room(spans(0, 60, 100, week)), room(spans(30, 40, 20000, 30000))
	c := clock.Calendar{Week: a, Closed: b}
	ask := func() [][]clock.Span {
		clock.Right(c)
		clock.Open(c, 35)
		clock.Between(a, 0, 50)
		clock.Fit(a, 0, 50)
		clock.Finish(a, 0, 50)
		l, _ := clock.Spans(c, 0, 40000)
		m, _ := clock.Both(a, b)
		n, _ := clock.Both(a, a)
		o, _ := clock.Both(a, nil)
		return [][]clock.Span{l, m, n, o}
	}
	wantA, wantB := slices.Clone(a[:cap(a)]), slices.Clone(b[:cap(b)])
	first := ask()
	if !slices.Equal(a[:cap(a)], wantA) || !slices.Equal(b[:cap(b)], wantB) {
		t.Error(a[:cap(a)], b[:cap(b)])
	}
	kept := ask()
	for i := range first {
		l := first[i][:cap(first[i])]
		for j := range l {
			l[j] = clock.Span{From: -7, To: -7}
		}
	}
	if !slices.Equal(a[:cap(a)], wantA) || !slices.Equal(b[:cap(b)], wantB) {
		t.Error(a[:cap(a)], b[:cap(b)])
	}
	for i, l := range ask() {
		if !slices.Equal(l, kept[i]) {
			t.Error(i, l, kept[i])
		}
	}
}
