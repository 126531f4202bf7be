package clock

import (
	"iter"

	"twistlock/api"
)

// Tidal reports whether a tide is right.
func Tidal(t Tide) bool {
	if !isTime(t.First) || t.Den < 1 || t.Den > 1000 || t.Num > 2*WeekMinutes*t.Den {
		return false
	}
	if t.Before < 0 || t.Before >= WeekMinutes || t.After < 0 || t.After >= WeekMinutes {
		return false
	}
	// A negative Num is left out here, too: its quotient is not above 0, even rounded up as here.
	length := t.Before + t.After
	return length > 0 && length < t.Num/t.Den
}

// high returns the high water k of a tide that is right, for a k for which no product is too long.
func high(t Tide, k int) int {
	return t.First + k*t.Num/t.Den
}

// firstAfter returns the least k whose high water of a tide that is right is later than a number of minutes.
func firstAfter(t Tide, minutes int) int {
	// The quotient k * Num / Den must reach ahead, which it does, rounded down or not, with the same k.
	ahead := minutes - t.First + 1
	if ahead <= 0 {
		return 0
	}
	return (ahead*t.Den + t.Num - 1) / t.Num
}

// High returns a high water.
func High(t Tide, k int) (int, api.Errno) {
	if !Tidal(t) || k < 0 {
		return 0, api.ErrArg
	}
	if k >= firstAfter(t, api.MaxTime) {
		return 0, api.ErrLong
	}
	return high(t, k), api.OK
}

// Windows returns the windows of a tide.
func Windows(t Tide, from, to int) ([]Span, api.Errno) {
	if !Tidal(t) || !inOrder(from, to) {
		return nil, api.ErrArg
	}
	return gather(windows(t, from, to))
}

// windows yields the windows of a tide that is right, as far as they are between two times. A window that begins in time counts even if its high water is later than any time.
func windows(t Tide, from, to int) iter.Seq[Span] {
	return func(yield func(Span) bool) {
		for k := firstAfter(t, from-t.After); ; k++ {
			at := high(t, k)
			if at-t.Before >= to {
				return
			}
			part := both(Span{at - t.Before, at + t.After}, Span{from, to})
			if !empty(part) && !yield(part) {
				return
			}
		}
	}
}
