// Package text reads texts of values, and tells the canonical text of a value.
package text

import "amend/value"

// words are the values that are told by a word, each at the place of its kind.
var words = [...]string{
	value.Null:  "null",
	value.True:  "true",
	value.False: "false",
}

// escapes are the letters that may follow a backslash, beside u, and the
// scalar value that each stands for.
var escapes = [...]struct {
	letter byte
	stands rune
}{
	{'"', '"'},
	{'\\', '\\'},
	{'/', '/'},
	{'b', 8},
	{'f', 12},
	{'n', 10},
	{'r', 13},
	{'t', 9},
}

// Surrogates: a first and a second one together tell a scalar value that four
// hexadecimal digits do not reach.
const (
	firstSurrogate  = 0xD800
	secondSurrogate = 0xDC00
	behindSurrogate = 0xE000
	beyondFour      = 0x10000
	secondOnes      = 0x400
)

// firstPlain is the least scalar value that may stand in a string as it is.
const firstPlain = 0x20

// farExponent is further from 0 than any exponent that MaxText bytes could
// bring back within MaxExponent by moving the point or dropping noughts.
const farExponent = 1_000_000
