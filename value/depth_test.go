package value_test

import (
	"testing"

	"amend/value"
)

func TestDepth(t *testing.T) {
	deep := array(array(), array(object(map[string]*value.Value{"a": numeral("1"), "b": array()})), numeral("2"))
	for i, x := range []struct {
		v    *value.Value
		want int
	}{
		{&value.Value{Kind: value.Null}, 1}, {numeral("1"), 1}, {&value.Value{Kind: value.String, Text: "[[]]"}, 1}, {array(), 1}, {object(nil), 1},
		{array(numeral("1")), 2}, {object(map[string]*value.Value{"a": numeral("1")}), 2}, {array(array()), 2}, {deep, 4}, {object(map[string]*value.Value{"a": numeral("1"), "b": deep}), 5},
	} {
		if got := x.v.Depth(); got != x.want {
			t.Errorf("value %d: got %d, want %d", i, got, x.want)
		}
	}
}
