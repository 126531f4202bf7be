package clock_test

import (
	"math"
	"math/rand"
	"slices"
	"testing"

	"twistlock/api"
	"twistlock/clock"
)

// moon is the tide of the chapter's examples.
func moon() clock.Tide { return clock.Tide{First: 100, Num: 1491, Den: 2, Before: 60, After: 90} }

// wrongTides returns tides that are not right.
func wrongTides() []clock.Tide {
	return []clock.Tide{
		{},
		{First: -1, Num: 1491, Den: 2, Before: 60, After: 90},
		{First: last + 1, Num: 1491, Den: 2, Before: 60, After: 90},
		{First: math.MinInt, Num: 1491, Den: 2, Before: 60, After: 90},
		{Num: 1491, Den: 0, Before: 60, After: 90},
		{Num: 1491000, Den: 1001, Before: 60, After: 90},
		{Num: -1491, Den: -2, Before: 60, After: 90},
		{Num: 1491, Den: math.MinInt, Before: 60, After: 90},
		{Num: 1491, Den: math.MaxInt, Before: 60, After: 90},
		{Num: 1491, Den: 2},
		{Num: 1491, Den: 2, Before: -1, After: 90},
		{Num: 1491, Den: 2, Before: 60, After: -1},
		{Num: 2 * week, Den: 1, Before: week},
		{Num: 2 * week, Den: 1, After: week},
		{Num: 2*week + 1, Den: 1, Before: 1},
		{Num: 2*week*1000 + 1, Den: 1000, Before: 1},
		{Num: math.MaxInt, Den: 1, Before: 1},
		{Num: math.MinInt, Den: 1, Before: 1},
		{Num: math.MinInt, Den: 1000, After: 1},
		{Num: 0, Den: 1, Before: 1},
		{Num: -1, Den: 2, Before: 1},
		{Num: 1, Den: 1, Before: 1},
		{Num: 3, Den: 2, Before: 1},
		{Num: 150, Den: 1, Before: 60, After: 90},
		{Num: 301, Den: 2, Before: 60, After: 90},
		{Num: 2 * week, Den: 1, Before: math.MaxInt, After: math.MaxInt},
		{Num: 2 * week, Den: 1, Before: math.MinInt, After: math.MinInt},
		{Num: 2 * week, Den: 1, Before: math.MaxInt, After: math.MinInt},
	}
}

// someTide returns a random tide that is right.
func someTide(r *rand.Rand) clock.Tide {
	for {
		t := clock.Tide{First: r.Intn(300), Num: r.Intn(3000), Den: 1 + r.Intn(9), Before: r.Intn(40), After: r.Intn(40)}
		if clock.Tidal(t) {
			return t
		}
	}
}

// P2.1

func TestTidal(t *testing.T) {
	for i, x := range []clock.Tide{
		moon(),
		{Num: 2, Den: 1, Before: 1},
		{Num: 2, Den: 1, After: 1},
		{First: last, Num: 4, Den: 2, Before: 1},
		{Num: 302, Den: 2, Before: 60, After: 90},
		{Num: 303, Den: 2, Before: 60, After: 90},
		{Num: 151000, Den: 1000, Before: 60, After: 90},
		{Num: 2 * week, Den: 1, Before: week - 1, After: week - 1},
		{Num: 2 * week * 1000, Den: 1000, Before: 1},
	} {
		if !clock.Tidal(x) {
			t.Error(i, x)
		}
	}
	for i, x := range wrongTides() {
		if clock.Tidal(x) {
			t.Error(i, x)
		}
	}
}

// P2.3

func TestHigh(t *testing.T) {
	for _, x := range []struct {
		tide    clock.Tide
		k, want int
	}{
		{moon(), 0, 100}, {moon(), 1, 845}, {moon(), 2, 1591}, {moon(), 3, 2336},
		{clock.Tide{Num: 10, Den: 3, After: 1}, 29999999, 99999996},
		{clock.Tide{Num: 10, Den: 3, After: 1}, 30000000, last},
		{clock.Tide{Num: 2, Den: 1, After: 1}, last / 2, last},
		{clock.Tide{Num: 2001, Den: 1000, After: 1}, 49975012, 99999999},
		{clock.Tide{First: last, Num: 2 * week, Den: 1, After: 1}, 0, last},
		{clock.Tide{First: last - 2*week, Num: 2 * week, Den: 1, After: 1}, 1, last},
	} {
		if n, e := clock.High(x.tide, x.k); n != x.want || e != api.OK {
			t.Error(x, n, e)
		}
	}
}

func TestHighErrors(t *testing.T) {
	for i, x := range wrongTides() {
		for _, k := range []int{0, 5, -1, math.MaxInt} {
			if n, e := clock.High(x, k); n != 0 || e != api.ErrArg {
				t.Error(i, k, n, e)
			}
		}
	}
	for _, x := range []struct {
		tide clock.Tide
		k    int
		want api.Errno
	}{
		{moon(), -1, api.ErrArg},
		{moon(), math.MinInt, api.ErrArg},
		{moon(), math.MaxInt, api.ErrLong},
		{moon(), math.MaxInt / 1491, api.ErrLong},
		{clock.Tide{Num: 10, Den: 3, After: 1}, 30000001, api.ErrLong},
		{clock.Tide{Num: 2, Den: 1, After: 1}, last/2 + 1, api.ErrLong},
		{clock.Tide{Num: 2 * week * 1000, Den: 1000, After: 1}, math.MaxInt, api.ErrLong},
		{clock.Tide{First: last, Num: 2, Den: 1, After: 1}, 1, api.ErrLong},
		{clock.Tide{First: last - 2*week + 1, Num: 2 * week, Den: 1, After: 1}, 1, api.ErrLong},
	} {
		if n, e := clock.High(x.tide, x.k); n != 0 || e != x.want {
			t.Error(x, n, e)
		}
	}
}

func TestHighOfAnyTide(t *testing.T) {
	r := rand.New(rand.NewSource(23))
	for range 2000 {
		x := clock.Tide{First: r.Intn(last + 1), Num: 2 + r.Intn(2*week*1000), Den: 1 + r.Intn(1000), Before: 1}
		if !clock.Tidal(x) {
			continue
		}
		least := (last - x.First) * x.Den / x.Num // a high water that is early enough, and near the last one
		for k := max(0, least-2); k < least+3; k++ {
			want, wantE := x.First+k*x.Num/x.Den, api.OK
			if want > last {
				want, wantE = 0, api.ErrLong
			}
			if n, e := clock.High(x, k); n != want || e != wantE {
				t.Error(x, k, n, e)
			}
		}
	}
}

func TestWindows(t *testing.T) {
	late := clock.Tide{First: last - 10, Num: 100, Den: 1, Before: 95}
	for i, x := range []struct {
		tide     clock.Tide
		from, to int
		want     []clock.Span
	}{
		{moon(), 0, 1000, spans(40, 190, 785, 935)},
		{moon(), 0, 1600, spans(40, 190, 785, 935, 1531, 1600)},
		{moon(), 189, 786, spans(189, 190, 785, 786)},
		{moon(), 190, 785, nil},
		{moon(), 0, 40, nil},
		{moon(), 0, 41, spans(40, 41)},
		{moon(), 100, 100, nil},
		{moon(), last, last, nil},
		{clock.Tide{First: 20, Num: 745, Den: 1, Before: 30, After: 10}, 0, 800, spans(0, 30, 735, 775)},
		{clock.Tide{First: 0, Num: 745, Den: 1, Before: 30, After: 10}, 0, 800, spans(0, 10, 715, 755)},
		// Before the time 0 nothing is left of the first window.
		{clock.Tide{First: 0, Num: 745, Den: 1, Before: 30}, 0, 800, spans(715, 745)},
		{clock.Tide{First: 7, Num: 745, Den: 1, After: 30}, 0, 800, spans(7, 37, 752, 782)},
		{clock.Tide{Num: 10, Den: 3, Before: 1, After: 1}, 0, 12, spans(0, 1, 2, 4, 5, 7, 9, 11)},
		{clock.Tide{First: last, Num: 10, Den: 3, Before: 1, After: 1}, 0, last, spans(last-1, last)},
		{clock.Tide{First: last, Num: 10, Den: 3, After: 1}, 0, last, nil},
		// The second high water is later than any time, but its window begins before.
		{late, last - 20, last, spans(last-20, last-10, last-5, last)},
		{clock.Tide{First: 5, Num: 2 * week, Den: 1, Before: week - 1, After: week - 1}, 0, 3 * week, spans(0, week+4, week+6, 3*week)},
	} {
		if l, e := clock.Windows(x.tide, x.from, x.to); !slices.Equal(l, x.want) || e != api.OK {
			t.Error(i, l, e)
		}
	}
}

func TestWindowsAreAroundHighWaters(t *testing.T) {
	r := rand.New(rand.NewSource(24))
	for i := range 2000 {
		x := someTide(r)
		from := r.Intn(1000)
		to := from + r.Intn(1000)
		want := minutes(from, to, func(time int) bool {
			for k := 0; ; k++ {
				at := x.First + k*x.Num/x.Den
				if at-x.Before <= time && time < at+x.After {
					return true
				}
				if at-x.Before > time {
					return false
				}
			}
		})
		l, e := clock.Windows(x, from, to)
		if !slices.Equal(l, want) || e != api.OK || !clock.Apart(l) {
			t.Error(i, x, from, to, l, want, e)
		}
	}
}

func TestLateWindows(t *testing.T) {
	r := rand.New(rand.NewSource(25))
	for i := range 2000 {
		x := clock.Tide{First: r.Intn(2000), Num: 2000 + r.Intn(1000*week), Den: 1 + r.Intn(1000), Before: r.Intn(900), After: r.Intn(900)}
		if !clock.Tidal(x) {
			continue
		}
		to := last - r.Intn(3000)
		from := to - r.Intn(3000)
		var want []clock.Span
		for k := max(0, (from-5000)*x.Den/x.Num); x.First+k*x.Num/x.Den-x.Before < to; k++ {
			at := x.First + k*x.Num/x.Den
			s := clock.Span{From: max(from, at-x.Before), To: min(to, at+x.After)}
			if s.From < s.To {
				want = append(want, s)
			}
		}
		if l, e := clock.Windows(x, from, to); !slices.Equal(l, want) || e != api.OK {
			t.Error(i, x, from, to, l, want, e)
		}
	}
}

func TestWindowsErrors(t *testing.T) {
	for i, x := range wrongTides() {
		for _, to := range []int{0, 10, last} {
			if l, e := clock.Windows(x, 0, to); len(l) != 0 || e != api.ErrArg {
				t.Error(i, to, l, e)
			}
		}
	}
	for _, p := range badPairs() {
		if l, e := clock.Windows(clock.Tide{Num: 2, Den: 1, After: 1}, p[0], p[1]); len(l) != 0 || e != api.ErrArg {
			t.Error(p, l, e)
		}
	}
	always := clock.Tide{Num: 2, Den: 1, After: 1}
	for _, x := range []struct{ from, to, want int }{{0, 1999, 1000}, {0, 2000, 1000}, {0, 2001, 0}, {1, 2001, 1000}, {0, last, 0}, {last - 2001, last, 1000}, {last - 2002, last, 0}} {
		l, e := clock.Windows(always, x.from, x.to)
		if x.want == 0 && (len(l) != 0 || e != api.ErrMany) || x.want != 0 && (len(l) != x.want || e != api.OK) {
			t.Error(x, len(l), e)
		}
	}
}

// P2.7

func TestTideIsTheSameAgain(t *testing.T) {
	r := rand.New(rand.NewSource(26))
	for range 500 {
		x := someTide(r)
		k := r.Intn(50)
		a, e := clock.High(x, k)
		b, f := clock.High(x, k+x.Den)
		if b != a+x.Num || e != api.OK || f != api.OK {
			t.Error(x, k, a, b, e, f)
		}
		// From the second high water on, all windows are whole and come back after Num minutes.
		from, _ := clock.High(x, 1)
		to := from + 2000
		l, e := clock.Windows(x, from, to)
		m, f := clock.Windows(x, from+x.Num, to+x.Num)
		for i := range l {
			l[i].From += x.Num
			l[i].To += x.Num
		}
		if !slices.Equal(l, m) || e != api.OK || f != api.OK {
			t.Error(x, l, m, e, f)
		}
	}
}
