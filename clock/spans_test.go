package clock_test

import (
	"math"
	"math/rand"
	"slices"
	"testing"

	"twistlock/api"
	"twistlock/clock"
)

// P2.4

func TestBoth(t *testing.T) {
	l := spans(10, 20, 30, 35, 50, 100)
	for i, x := range []struct{ a, b, want []clock.Span }{
		{nil, nil, nil},
		{l, nil, nil},
		{l, l, l},
		{l, spans(0, last), l},
		{l, spans(15, 32, 34, 60), spans(15, 20, 30, 32, 34, 35, 50, 60)},
		{l, spans(20, 30, 35, 50, 100, 101), nil},
		{l, spans(19, 31), spans(19, 20, 30, 31)},
		{spans(0, 10), spans(10, 20), nil},
		{spans(0, 10, 11, 20), spans(0, 20), spans(0, 10, 11, 20)},
		{spans(0, last), spans(last-1, last), spans(last-1, last)},
		{spans(0, 10, 20, 30), spans(5, 10, 20, 25), spans(5, 10, 20, 25)},
	} {
		a, e := clock.Both(x.a, x.b)
		b, f := clock.Both(x.b, x.a)
		if !slices.Equal(a, x.want) || !slices.Equal(b, x.want) || e != api.OK || f != api.OK {
			t.Error(i, a, b, e, f)
		}
	}
}

func TestBothHasTheTimesOfBoth(t *testing.T) {
	r := rand.New(rand.NewSource(27))
	for i := range 3000 {
		a, b := some(r, r.Intn(10), 200), some(r, r.Intn(10), 200)
		want := minutes(0, 300, func(time int) bool { return has(a, time) && has(b, time) })
		if l, e := clock.Both(a, b); !slices.Equal(l, want) || e != api.OK || !clock.Apart(l) {
			t.Error(i, a, b, l, e)
		}
	}
}

func TestBothErrors(t *testing.T) {
	many := comb(1000, 0, 3, 4)
	for i, l := range wrongSpans() {
		for _, other := range [][]clock.Span{nil, spans(0, last), many, l} {
			a, e := clock.Both(l, other)
			b, f := clock.Both(other, l)
			if len(a) != 0 || len(b) != 0 || e != api.ErrArg || f != api.ErrArg {
				t.Error(i, a, b, e, f)
			}
		}
	}
}

func TestTooManyInBoth(t *testing.T) {
	// Each bridge has a part of each of two neighbours.
	bridges := comb(500, 2, 3, 4)
	onlyOne := append(slices.Clone(bridges), clock.Span{From: 2002, To: 2003})
	for i, x := range []struct {
		a, b []clock.Span
		want int // spans, or 0 for too many
	}{
		{bridges, comb(500, 0, 3, 4), 999},
		{bridges, comb(501, 0, 3, 4), 1000},
		{bridges, comb(1000, 0, 3, 4), 1000},
		{onlyOne, comb(500, 0, 3, 4), 999},
		{onlyOne, comb(501, 0, 3, 4), 0},
		{comb(999, 2, 3, 4), comb(1000, 0, 3, 4), 0},
		{comb(1000, 0, 1, 2), comb(1000, 0, 1, 2), 1000},
	} {
		a, e := clock.Both(x.a, x.b)
		b, f := clock.Both(x.b, x.a)
		wantE := api.OK
		if x.want == 0 {
			wantE = api.ErrMany
		}
		if len(a) != x.want || len(b) != x.want || e != wantE || f != wantE {
			t.Error(i, len(a), len(b), e, f)
		}
	}
}

func TestBetween(t *testing.T) {
	l := spans(10, 20, 30, 35, 50, 100)
	for _, x := range []struct{ from, to, want int }{
		{0, last, 65}, {0, 0, 0}, {15, 15, 0}, {15, 32, 7}, {20, 30, 0}, {19, 31, 2}, {99, 100, 1}, {100, last, 0}, {last, last, 0}, {12, 14, 2},
	} {
		if n, e := clock.Between(l, x.from, x.to); n != x.want || e != api.OK {
			t.Error(x, n, e)
		}
	}
	if n, e := clock.Between(nil, 0, last); n != 0 || e != api.OK {
		t.Error(n, e)
	}
	if n, e := clock.Between(spans(0, last), 0, last); n != last || e != api.OK {
		t.Error(n, e)
	}
	for i, wrong := range wrongSpans() {
		if n, e := clock.Between(wrong, 0, 10); n != 0 || e != api.ErrArg {
			t.Error(i, n, e)
		}
	}
	for _, p := range badPairs() {
		if n, e := clock.Between(l, p[0], p[1]); n != 0 || e != api.ErrArg {
			t.Error(p, n, e)
		}
	}
}

func TestBetweenCountsTimes(t *testing.T) {
	r := rand.New(rand.NewSource(28))
	for i := range 3000 {
		l := some(r, r.Intn(10), 200)
		from := r.Intn(200)
		to := from + r.Intn(200)
		want := 0
		for time := from; time < to; time++ {
			if has(l, time) {
				want++
			}
		}
		if n, e := clock.Between(l, from, to); n != want || e != api.OK {
			t.Error(i, l, from, to, n, e)
		}
	}
}

// P2.5

func TestFitAndFinish(t *testing.T) {
	none := api.ErrNone
	work := spans(360, 1320, 2000, 2760)
	l := spans(10, 20, 30, 35, 50, 100)
	for _, x := range []struct {
		l              []clock.Span
		ready, minutes int
		fit            int
		fitE           api.Errno
		finish         int
		finishE        api.Errno
	}{
		{work, 1200, 200, 2000, 0, 2080, 0},
		{work, 1200, 120, 1200, 0, 1320, 0},
		{work, 1200, 121, 2000, 0, 2001, 0},
		{l, 0, 1, 10, 0, 11, 0},
		{l, 0, 10, 10, 0, 20, 0},
		{l, 0, 11, 50, 0, 31, 0},
		{l, 19, 1, 19, 0, 20, 0},
		{l, 20, 1, 30, 0, 31, 0},
		{l, 25, 5, 30, 0, 35, 0},
		{l, 31, 5, 50, 0, 51, 0},
		{l, 0, 50, 50, 0, 85, 0},
		{l, 0, 51, 0, none, 86, 0},
		{l, 0, 65, 0, none, 100, 0},
		{l, 0, 66, 0, none, 0, none},
		{l, 99, 1, 99, 0, 100, 0},
		{l, 99, 2, 0, none, 0, none},
		{l, 100, 1, 0, none, 0, none},
		{l, last, 1, 0, none, 0, none},
		{l, 0, last, 0, none, 0, none},
		{nil, 0, 1, 0, none, 0, none},
		{spans(0, last), 0, last, 0, 0, last, 0},
		{spans(0, last), 1, last, 0, none, 0, none},
		{spans(0, last), last - 1, 1, last - 1, 0, last, 0},
	} {
		a, e := clock.Fit(x.l, x.ready, x.minutes)
		b, f := clock.Finish(x.l, x.ready, x.minutes)
		if a != x.fit || e != x.fitE || b != x.finish || f != x.finishE {
			t.Error(x, a, e, b, f)
		}
	}
}

func TestWorkErrors(t *testing.T) {
	refused := func(l []clock.Span, ready, minutes int) {
		t.Helper()
		a, e := clock.Fit(l, ready, minutes)
		b, f := clock.Finish(l, ready, minutes)
		if a != 0 || b != 0 || e != api.ErrArg || f != api.ErrArg {
			t.Error(l, ready, minutes, a, e, b, f)
		}
	}
	for _, l := range wrongSpans() {
		refused(l, 0, 1)
		refused(l, last, last)
	}
	for _, ready := range badTimes() {
		refused(spans(0, last), ready, 1)
		refused(nil, ready, 1)
	}
	for _, minutes := range []int{0, -1, last + 1, math.MinInt, math.MaxInt} {
		refused(spans(0, last), 0, minutes)
		refused(nil, 0, minutes)
	}
}

func TestFitAndFinishAreTheLeast(t *testing.T) {
	r := rand.New(rand.NewSource(29))
	for i := range 3000 {
		l := some(r, r.Intn(8), 150)
		ready, minutes := r.Intn(160), 1+r.Intn(60)
		fit, fitE := 0, api.ErrNone
		for from := ready; from < 160 && fitE != api.OK; from++ {
			if slices.ContainsFunc(l, func(s clock.Span) bool { return s.From <= from && from+minutes <= s.To }) {
				fit, fitE = from, api.OK
			}
		}
		finish, finishE := 0, api.ErrNone
		for time, done := ready, 0; time < 160 && finishE != api.OK; time++ {
			if has(l, time) {
				done++
			}
			if done == minutes {
				finish, finishE = time+1, api.OK
			}
		}
		a, e := clock.Fit(l, ready, minutes)
		b, f := clock.Finish(l, ready, minutes)
		if a != fit || e != fitE || b != finish || f != finishE {
			t.Error(i, l, ready, minutes, a, e, b, f)
		}
	}
}

// P2.7

func TestWorkIsMonotonic(t *testing.T) {
	r := rand.New(rand.NewSource(30))
	for i := range 3000 {
		l := some(r, r.Intn(8), 150)
		ready, minutes := r.Intn(150), 1+r.Intn(40)
		end, e := clock.Finish(l, ready, minutes)
		begin, f := clock.Fit(l, ready, minutes)
		if f == api.OK && (e != api.OK || begin+minutes < end) {
			t.Error(i, l, ready, minutes, begin, end, e)
		}
		if e != api.OK {
			continue
		}
		if n, _ := clock.Between(l, ready, end); n != minutes {
			t.Error(i, l, ready, minutes, end, n)
		}
		if more, g := clock.Finish(l, ready, minutes+1); g == api.OK && more <= end {
			t.Error(i, l, ready, minutes, end, more)
		}
		if later, g := clock.Finish(l, ready+1, minutes); g == api.OK && later < end {
			t.Error(i, l, ready, minutes, end, later)
		}
		if later, g := clock.Fit(l, ready+1, minutes); g == api.OK && (f != api.OK || later < begin) {
			t.Error(i, l, ready, minutes, begin, later)
		}
	}
}
