package value_test

import (
	"testing"

	"amend/value"
)

func TestClone(t *testing.T) {
	made := func() *value.Value {
		return array(numeral("15"), object(map[string]*value.Value{"a": array(), "b": object(nil)}), &value.Value{Kind: value.String, Text: "x"}, &value.Value{Kind: value.True})
	}
	v := made()
	c := v.Clone()
	if !value.Same(v, c) {
		t.Fatal("a clone is another value")
	}
	c.Elements[1].Members["a"].Elements = append(c.Elements[1].Members["a"].Elements, numeral("1"))
	c.Elements[1].Members["b"].Members["c"] = numeral("2")
	c.Elements[1].Members["d"] = numeral("3")
	c.Elements[2].Text = "y"
	c.Elements[0] = numeral("4")
	if !value.Same(v, made()) {
		t.Error("a value changed with its clone")
	}
}
