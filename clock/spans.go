package clock

import (
	"iter"

	"twistlock/api"
)

// Apart reports whether spans are apart.
func Apart(l []Span) bool {
	if len(l) > MaxSpans {
		return false
	}
	before := -1
	for _, s := range l {
		if s.From <= before || s.To <= s.From || s.To > api.MaxTime {
			return false
		}
		before = s.To
	}
	return true
}

func empty(s Span) bool {
	return s.From >= s.To
}

// both returns the times that two spans have in common; it is empty if there are none.
func both(a, b Span) Span {
	return Span{max(a.From, b.From), min(a.To, b.To)}
}

func contains(l []Span, time int) bool {
	for _, s := range l {
		if s.From <= time && time < s.To {
			return true
		}
	}
	return false
}

// gather returns spans in order as spans that are apart: those that touch become one, as the end of a week and the beginning of the next one do.
func gather(spans iter.Seq[Span]) ([]Span, api.Errno) {
	var out []Span
	for s := range spans {
		last := len(out) - 1
		if last >= 0 && out[last].To == s.From {
			out[last].To = s.To
		} else if len(out) == MaxSpans {
			return nil, api.ErrMany
		} else {
			out = append(out, s)
		}
	}
	return out, api.OK
}

// Both returns what two lists of spans have in common.
func Both(a, b []Span) ([]Span, api.Errno) {
	if !Apart(a) || !Apart(b) {
		return nil, api.ErrArg
	}
	return gather(common(a, b))
}

// common yields what spans that are apart have in common with others.
func common(a, b []Span) iter.Seq[Span] {
	return func(yield func(Span) bool) {
		for i, j := 0, 0; i < len(a) && j < len(b); {
			part := both(a[i], b[j])
			if !empty(part) && !yield(part) {
				return
			}
			if a[i].To < b[j].To {
				i++
			} else {
				j++
			}
		}
	}
}

// Between returns how many times of spans are between two times.
func Between(l []Span, from, to int) (int, api.Errno) {
	if !Apart(l) || !inOrder(from, to) {
		return 0, api.ErrArg
	}
	sum := 0
	for _, s := range l {
		if part := both(s, Span{from, to}); !empty(part) {
			sum += part.To - part.From
		}
	}
	return sum, api.OK
}

// isWork reports whether what is asked of spans is work that they can be asked for.
func isWork(l []Span, ready, minutes int) bool {
	return Apart(l) && isTime(ready) && minutes >= 1 && minutes <= api.MaxTime
}

// Fit returns when work can begin that must not be interrupted.
func Fit(l []Span, ready, minutes int) (int, api.Errno) {
	if !isWork(l, ready, minutes) {
		return 0, api.ErrArg
	}
	for _, s := range l {
		if begin := max(s.From, ready); s.To-begin >= minutes {
			return begin, api.OK
		}
	}
	return 0, api.ErrNone
}

// Finish returns when work ends that may be interrupted.
func Finish(l []Span, ready, minutes int) (int, api.Errno) {
	if !isWork(l, ready, minutes) {
		return 0, api.ErrArg
	}
	left := minutes
	for _, s := range l {
		begin := max(s.From, ready)
		if s.To-begin >= left {
			return begin + left, api.OK
		}
		left -= max(0, s.To-begin)
	}
	return 0, api.ErrNone
}
