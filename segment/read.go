package segment

import (
	"slices"

	"twistlock/api"
	"twistlock/lex"
)

// anyOther stands for all first elements that are neither a head's nor a trailer's.
const anyOther = ""

// reader has the messages that were read, their references, and the message that is under way, as long as it is open.
type reader struct {
	Message
	open     bool
	messages []Message
	met      map[string]bool
}

// place is what the first element of a segment is, and whether a message is open there.
type place struct {
	first string
	open  bool
}

// readings returns what a segment is read as at each place.
func readings() map[place]func(r *reader, s lex.Segment) api.Errno {
	return map[place]func(r *reader, s lex.Segment) api.Errno{
		{headTag, false}:  (*reader).begin,
		{endTag, false}:   (*reader).refuse,
		{anyOther, false}: (*reader).refuse,
		{headTag, true}:   (*reader).refuse,
		{endTag, true}:    (*reader).end,
		{anyOther, true}:  (*reader).add,
	}
}

// Read returns the messages of a string; or an error, and where it is.
func Read(text string) ([]Message, int, api.Errno) {
	segments, at, e := lex.Read(text)
	if e != api.OK {
		return nil, at, e
	}
	r := &reader{met: map[string]bool{}}
	readAt := readings()
	for i, s := range segments {
		trimmed := Trim(s)
		read := readAt[place{classify(trimmed), r.open}]
		if e := read(r, trimmed); e != api.OK {
			return nil, i, e
		}
	}
	if r.open {
		return nil, len(segments), ErrEnd
	}
	return r.messages, 0, api.OK
}

// classify returns what the first element of a segment is.
func classify(s lex.Segment) string {
	switch first := alone(s); first {
	case headTag, endTag:
		return first
	}
	return anyOther
}

// alone returns the component of the first element of a segment if it has no other one; otherwise an empty string, which is no tag either.
func alone(s lex.Segment) string {
	if len(s) == 0 || len(s[0]) != 1 {
		return ""
	}
	return s[0][0]
}

// begin reads a segment as the head of a message.
func (r *reader) begin(s lex.Segment) api.Errno {
	m := Message{Ref: field(s, 1, 0), Kind: field(s, 2, 0)}
	if !Right(m) || !same(s, head(m)) {
		return ErrHead
	}
	if r.met[m.Ref] {
		return ErrRef
	}
	r.met[m.Ref] = true
	r.Message, r.open = m, true
	return api.OK
}

// refuse reads a segment where there must be a head and it is none, or where it is one and there may be none.
func (r *reader) refuse(s lex.Segment) api.Errno {
	return ErrHead
}

// add reads a segment as one of the message under way.
func (r *reader) add(s lex.Segment) api.Errno {
	tag := alone(s)
	if !isTag(tag) {
		return ErrTag
	}
	r.Segs = append(r.Segs, Seg{Tag: tag, Data: s[1:]})
	return api.OK
}

// end reads a segment as the trailer of the message under way.
func (r *reader) end(s lex.Segment) api.Errno {
	if !same(s, trailer(r.Message)) {
		return ErrEnd
	}
	r.messages, r.open = append(r.messages, r.Message), false
	return api.OK
}

// same reports whether segments are equal.
func same(a, b lex.Segment) bool {
	return slices.EqualFunc(a, b, slices.Equal[[]string])
}
