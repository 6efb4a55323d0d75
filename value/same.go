package value

import (
	"maps"
	"slices"
)

// Same tells whether two values are the same.
func Same(a, b *Value) bool {
	if a.Kind != b.Kind {
		return false
	}
	switch a.Kind {
	case Numeral:
		return a.Number == b.Number
	case String:
		return a.Text == b.Text
	case Array:
		return slices.EqualFunc(a.Elements, b.Elements, Same)
	case Object:
		return maps.EqualFunc(a.Members, b.Members, Same)
	}
	return true
}
