package text

import (
	"strings"

	"amend/api"
	"amend/value"
)

// reader goes through a text. What is wrong with a value, but not with its
// text, it only notes: whether the text is one at all is known at its end, and
// that is told first.
type reader struct {
	text     string
	at       int
	twice    bool // a key came twice in an object
	deepest  int  // the depth of the value, as far as it is read
	farthest int  // how far the exponents are from 0 at the most
}

// Read reads a text to a depth, with exponents from -exponent to exponent.
func Read(s string, depth, exponent int) (*value.Value, api.Errno) {
	if len(s) > api.MaxText {
		return nil, api.ErrLong
	}
	r := &reader{text: s}
	v, ok := r.whole()
	switch {
	case !ok:
		return nil, api.ErrText
	case r.twice:
		return nil, api.ErrTwice
	case r.deepest > depth:
		return nil, api.ErrDepth
	case r.farthest > exponent:
		return nil, api.ErrNumber
	}
	return v, api.OK
}

// peek tells the next byte; at the end 0, which stands nowhere in a text.
func (r *reader) peek() byte {
	if r.at == len(r.text) {
		return 0
	}
	return r.text[r.at]
}

// take steps over the next byte, if it is c.
func (r *reader) take(c byte) bool {
	if r.at == len(r.text) || r.text[r.at] != c {
		return false
	}
	r.at++
	return true
}

func (r *reader) blanks() {
	for r.take(' ') || r.take('\t') || r.take('\n') || r.take('\r') {
	}
}

func (r *reader) whole() (*value.Value, bool) {
	r.blanks()
	v, ok := r.value(1)
	if !ok {
		return nil, false
	}
	r.blanks()
	return v, r.at == len(r.text)
}

// value reads a value that stands level-1 arrays and objects deep.
func (r *reader) value(level int) (*value.Value, bool) {
	r.deepest = max(r.deepest, level)
	switch c := r.peek(); {
	case c == '{':
		return r.object(level)
	case c == '[':
		return r.array(level)
	case c == '"':
		s, ok := r.quoted()
		return &value.Value{Kind: value.String, Text: s}, ok
	case c == '-' || isDigit(c):
		n, ok := r.number()
		return &value.Value{Kind: value.Numeral, Number: n}, ok
	}
	return r.word()
}

func (r *reader) word() (*value.Value, bool) {
	for kind, word := range words {
		if strings.HasPrefix(r.text[r.at:], word) {
			r.at += len(word)
			return &value.Value{Kind: value.Kind(kind)}, true
		}
	}
	return nil, false
}

func (r *reader) array(level int) (*value.Value, bool) {
	v := &value.Value{Kind: value.Array}
	ok := r.list('[', ']', func() bool {
		element, ok := r.value(level + 1)
		v.Elements = append(v.Elements, element)
		return ok
	})
	return v, ok
}

func (r *reader) object(level int) (*value.Value, bool) {
	v := &value.Value{Kind: value.Object, Members: map[string]*value.Value{}}
	ok := r.list('{', '}', func() bool { return r.member(v, level+1) })
	return v, ok
}

func (r *reader) member(object *value.Value, level int) bool {
	key, ok := r.quoted()
	if !ok {
		return false
	}
	r.blanks()
	if !r.take(':') {
		return false
	}
	r.blanks()
	v, ok := r.value(level)
	if _, there := object.Members[key]; there {
		r.twice = true
	}
	object.Members[key] = v
	return ok
}

// list reads what item reads, with commas between, in a pair of brackets.
func (r *reader) list(opening, closing byte, item func() bool) bool {
	if !r.take(opening) {
		return false
	}
	r.blanks()
	if r.take(closing) {
		return true
	}
	for {
		r.blanks()
		if !item() {
			return false
		}
		r.blanks()
		if r.take(closing) {
			return true
		}
		if !r.take(',') {
			return false
		}
	}
}
