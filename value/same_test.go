package value_test

import (
	"testing"

	"amend/value"
)

func array(elements ...*value.Value) *value.Value {
	return &value.Value{Kind: value.Array, Elements: elements}
}

func object(members map[string]*value.Value) *value.Value {
	return &value.Value{Kind: value.Object, Members: members}
}

func numeral(digits string) *value.Value {
	return &value.Value{Kind: value.Numeral, Number: value.MakeNumber(false, digits, 0)}
}

func TestSame(t *testing.T) {
	made := func() []*value.Value {
		return []*value.Value{
			{Kind: value.Null}, {Kind: value.True}, {Kind: value.False},
			numeral("0"), numeral("1"), numeral("10"),
			{Kind: value.String}, {Kind: value.String, Text: "a"},
			array(), array(array()), array(numeral("1")), array(numeral("1"), numeral("1")), array(numeral("1"), numeral("0")),
			object(nil), object(map[string]*value.Value{"a": numeral("1")}), object(map[string]*value.Value{"b": numeral("1")}),
			object(map[string]*value.Value{"a": numeral("10")}), object(map[string]*value.Value{"a": numeral("1"), "b": numeral("1")}),
		}
	}
	for i, a := range made() {
		for j, b := range made() {
			if value.Same(a, b) != (i == j) {
				t.Errorf("values %d and %d: same is %v", i, j, i != j)
			}
		}
	}
	empty := object(map[string]*value.Value{})
	if !value.Same(object(nil), empty) || !value.Same(array(), &value.Value{Kind: value.Array, Elements: []*value.Value{}}) {
		t.Error("nothing in it, and not the same")
	}
}
