package lex

import (
	"twistlock/api"
)

// textEnd is read after the last rune of a text. No string has such a rune.
const textEnd rune = -1

// reader has what was read of a text, and what happens to the rune that comes next.
type reader struct {
	next      func(at int, c rune) (int, api.Errno)
	segments  []Segment
	segment   Segment
	element   []string
	component []byte
}

// Read returns the segments of a string; or an error, and its position.
func Read(text string) ([]Segment, int, api.Errno) {
	if len(text) > MaxBytes {
		return nil, 0, api.ErrLong
	}
	r := new(reader)
	r.next = r.between
	for at, c := range text {
		if wrong, e := r.next(at, c); e != api.OK {
			return nil, wrong, e
		}
	}
	if wrong, e := r.next(len(text), textEnd); e != api.OK {
		return nil, wrong, e
	}
	return r.segments, 0, api.OK
}

// between takes a rune that no segment has yet; it begins one, unless it is left out.
func (r *reader) between(at int, c rune) (int, api.Errno) {
	switch c {
	case '\n', '\r', ' ', textEnd:
		return 0, api.OK
	}
	if len(r.segments) == MaxSegments {
		return at, api.ErrMany
	}
	r.next = r.inside
	return r.inside(at, c)
}

// inside takes a rune of a segment that is not released.
func (r *reader) inside(at int, c rune) (int, api.Errno) {
	switch c {
	case textEnd:
		return at, ErrEnd
	case segmentEnd:
		r.endSegment()
		r.next = r.between
	case elementEnd:
		r.endElement()
		if len(r.segment) == MaxElements {
			return at, api.ErrMany
		}
	case componentEnd:
		r.endComponent()
		if len(r.element) == MaxComponents {
			return at, api.ErrMany
		}
	case release:
		r.next = r.released
	default:
		if !mayStand(c) {
			return at, ErrByte
		}
		return r.put(at, c)
	}
	return 0, api.OK
}

// released takes the rune after a ?. Both errors that it may find are at the ?.
func (r *reader) released(at int, c rune) (int, api.Errno) {
	if !isService(c) && c != ' ' {
		return at - 1, ErrRelease
	}
	r.next = r.inside
	return r.put(at-1, c)
}

// put adds a byte to the component.
func (r *reader) put(at int, c rune) (int, api.Errno) {
	if len(r.component) == MaxText {
		return at, api.ErrLong
	}
	r.component = append(r.component, byte(c))
	return 0, api.OK
}

func (r *reader) endComponent() {
	r.element = append(r.element, string(r.component))
	r.component = r.component[:0]
}

func (r *reader) endElement() {
	r.endComponent()
	r.segment = append(r.segment, r.element)
	r.element = nil
}

func (r *reader) endSegment() {
	r.endElement()
	r.segments = append(r.segments, r.segment)
	r.segment = nil
}
