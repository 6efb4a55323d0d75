package text

import (
	"strings"
	"unicode/utf8"
)

// quoted reads a string with its quotation marks.
func (r *reader) quoted() (string, bool) {
	if !r.take('"') {
		return "", false
	}
	var b strings.Builder
	for !r.take('"') {
		c, ok := r.character()
		if !ok {
			return "", false
		}
		b.WriteRune(c)
	}
	return b.String(), true
}

func (r *reader) character() (rune, bool) {
	if r.take('\\') {
		return r.escape()
	}
	c, size := utf8.DecodeRuneInString(r.text[r.at:])
	// U+FFFD may stand in a text; that it is short tells of an end, or of no UTF-8.
	if c < firstPlain || c == utf8.RuneError && size < 2 {
		return 0, false
	}
	r.at += size
	return c, true
}

func (r *reader) escape() (rune, bool) {
	if r.take('u') {
		return r.scalar()
	}
	for _, e := range escapes {
		if r.take(e.letter) {
			return e.stands, true
		}
	}
	return 0, false
}

// scalar reads what follows \u: four hexadecimal digits, or a pair of surrogates.
func (r *reader) scalar() (rune, bool) {
	first, ok := r.fourDigits()
	if !ok {
		return 0, false
	}
	if first < firstSurrogate || first >= behindSurrogate {
		return first, true
	}
	if first >= secondSurrogate || !r.take('\\') || !r.take('u') {
		return 0, false
	}
	second, ok := r.fourDigits()
	if !ok || second < secondSurrogate || second >= behindSurrogate {
		return 0, false
	}
	return beyondFour + (first-firstSurrogate)*secondOnes + second - secondSurrogate, true
}

func (r *reader) fourDigits() (rune, bool) {
	var n rune
	for range 4 {
		digit, ok := hexadecimal(r.peek())
		if !ok {
			return 0, false
		}
		n = n<<4 | digit
		r.at++
	}
	return n, true
}

func hexadecimal(c byte) (rune, bool) {
	switch {
	case isDigit(c):
		return rune(c - '0'), true
	case 'a' <= c && c <= 'f':
		return rune(c-'a') + 10, true
	case 'A' <= c && c <= 'F':
		return rune(c-'A') + 10, true
	}
	return 0, false
}
