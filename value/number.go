package value

import "strings"

// Number is an exact number, told in one way alone: two numbers are the same
// if, and only if, they are == to each other. The zero Number is 0.
type Number struct {
	Negative bool
	Digits   string // neither begins nor ends with the digit 0; empty, if the number is 0
	Exponent int
}

// MakeNumber makes the number of these digits (noughts at both ends may be
// there) times 10 to the exponent.
func MakeNumber(negative bool, digits string, exponent int) Number {
	digits = strings.TrimLeft(digits, "0")
	whole := strings.TrimRight(digits, "0")
	if whole == "" {
		return Number{}
	}
	return Number{
		Negative: negative,
		// A copy, so that a number does not hold on to the text it was read from.
		Digits:   strings.Clone(whole),
		Exponent: exponent + len(digits) - len(whole),
	}
}

// IsZero tells whether the number is 0.
func (n Number) IsZero() bool { return n.Digits == "" }
