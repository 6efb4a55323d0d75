package text

import (
	"maps"
	"slices"
	"strconv"
	"strings"

	"amend/value"
)

// Canonical tells the canonical text of a value.
func Canonical(v *value.Value) string {
	var b strings.Builder
	writeValue(&b, v)
	return b.String()
}

func writeValue(b *strings.Builder, v *value.Value) {
	switch v.Kind {
	case value.Numeral:
		writeNumber(b, v.Number)
	case value.String:
		writeQuoted(b, v.Text)
	case value.Array:
		writeArray(b, v.Elements)
	case value.Object:
		writeObject(b, v.Members)
	default:
		b.WriteString(words[v.Kind])
	}
}

func writeNumber(b *strings.Builder, n value.Number) {
	if n.IsZero() {
		b.WriteByte('0')
		return
	}
	if n.Negative {
		b.WriteByte('-')
	}
	b.WriteString(n.Digits)
	if n.Exponent != 0 {
		b.WriteByte('e')
		b.WriteString(strconv.Itoa(n.Exponent))
	}
}

func writeQuoted(b *strings.Builder, s string) {
	const digits = "0123456789abcdef"
	b.WriteByte('"')
	// Byte by byte will do: in UTF-8 what is escaped stands for itself alone.
	for _, c := range []byte(s) {
		switch {
		case c == '"' || c == '\\':
			b.WriteByte('\\')
			b.WriteByte(c)
		case c < firstPlain:
			b.WriteString(`\u00`)
			b.WriteByte(digits[c>>4])
			b.WriteByte(digits[c&15])
		default:
			b.WriteByte(c)
		}
	}
	b.WriteByte('"')
}

func writeArray(b *strings.Builder, elements []*value.Value) {
	b.WriteByte('[')
	for i, element := range elements {
		if i > 0 {
			b.WriteByte(',')
		}
		writeValue(b, element)
	}
	b.WriteByte(']')
}

func writeObject(b *strings.Builder, members map[string]*value.Value) {
	b.WriteByte('{')
	// The order of UTF-8 bytes is the order of the scalar values.
	for i, key := range slices.Sorted(maps.Keys(members)) {
		if i > 0 {
			b.WriteByte(',')
		}
		writeQuoted(b, key)
		b.WriteByte(':')
		writeValue(b, members[key])
	}
	b.WriteByte('}')
}
