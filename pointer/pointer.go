// Package pointer reads pointers, and goes where they lead.
package pointer

import (
	"slices"
	"strconv"
	"strings"
	"unicode/utf8"

	"amend/api"
	"amend/value"
)

// Pointer is a pointer: its tokens, as the keys that they stand for. The one
// without tokens points to the whole.
type Pointer []string

// escapes are what a token must tell in another way.
var escapes = [...]struct {
	told   string
	stands byte
}{
	{"~0", '~'},
	{"~1", '/'},
}

// Read reads a pointer, and tells whether the text is one.
func Read(s string) (Pointer, bool) {
	if !utf8.ValidString(s) {
		return nil, false
	}
	tokens := strings.Split(s, "/")
	if tokens[0] != "" {
		return nil, false
	}
	p := Pointer(tokens[1:])
	for i, token := range p {
		plain, ok := unescape(token)
		if !ok {
			return nil, false
		}
		p[i] = plain
	}
	return p, true
}

func unescape(token string) (string, bool) {
	var b strings.Builder
	for {
		plain, _, escaped := strings.Cut(token, "~")
		b.WriteString(plain)
		if !escaped {
			return b.String(), true
		}
		token = token[len(plain):]
		stands, size := escape(token)
		if size == 0 {
			return "", false
		}
		b.WriteByte(stands)
		token = token[size:]
	}
}

// escape tells what the escape at the beginning of s stands for, and how many
// bytes it has: 0, if there is none.
func escape(s string) (stands byte, size int) {
	for _, e := range escapes {
		if strings.HasPrefix(s, e.told) {
			return e.stands, len(e.told)
		}
	}
	return 0, 0
}

// String tells the text of the pointer.
func (p Pointer) String() string {
	var b strings.Builder
	for _, token := range p {
		b.WriteByte('/')
		for _, c := range []byte(token) {
			writeEscaped(&b, c)
		}
	}
	return b.String()
}

func writeEscaped(b *strings.Builder, c byte) {
	for _, e := range escapes {
		if e.stands == c {
			b.WriteString(e.told)
			return
		}
	}
	b.WriteByte(c)
}

// To is the pointer with one more token.
func (p Pointer) To(token string) Pointer {
	// Of the pointers that go on from p each has room of its own.
	return append(slices.Clip(p), token)
}

// Find goes from the whole to what p points to.
func (p Pointer) Find(whole *value.Value) (*value.Value, api.Errno) {
	v := whole
	for _, token := range p {
		next, code := Child(v, token)
		if code != api.OK {
			return nil, code
		}
		v = next
	}
	return v, api.OK
}

// Child goes from a value to the member, or the element, that a token tells.
func Child(v *value.Value, token string) (*value.Value, api.Errno) {
	switch v.Kind {
	case value.Object:
		if member, there := v.Members[token]; there {
			return member, api.OK
		}
	case value.Array:
		i, ok := Index(token)
		if !ok {
			return nil, api.ErrIndex
		}
		if i < len(v.Elements) {
			return v.Elements[i], api.OK
		}
	}
	return nil, api.ErrTarget
}

// Index tells which number a token is, if it is an index at all.
func Index(token string) (int, bool) {
	noughtAhead := len(token) > 1 && token[0] == '0'
	if token == "" || noughtAhead || strings.Trim(token, "0123456789") != "" {
		return 0, false
	}
	// Of a number that is too great for an int Atoi tells the greatest int: an
	// array never has that many elements either.
	n, _ := strconv.Atoi(token)
	return n, true
}
