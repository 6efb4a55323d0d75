package value_test

import (
	"testing"

	"amend/value"
)

func TestMakeNumber(t *testing.T) {
	for _, x := range []struct {
		negative bool
		digits   string
		exponent int
		want     value.Number
	}{
		{false, "1", 0, value.Number{Digits: "1"}},
		{true, "1", 0, value.Number{Negative: true, Digits: "1"}},
		{false, "0100", 0, value.Number{Digits: "1", Exponent: 2}},
		{false, "100", -5, value.Number{Digits: "1", Exponent: -3}},
		{false, "00102030", -2, value.Number{Digits: "10203", Exponent: -1}},
		{true, "000", 7, value.Number{}},
		{false, "0", -7, value.Number{}},
		{false, "", 3, value.Number{}},
	} {
		if got := value.MakeNumber(x.negative, x.digits, x.exponent); got != x.want {
			t.Errorf("%v %q %d: got %+v, want %+v", x.negative, x.digits, x.exponent, got, x.want)
		}
	}
}

func TestIsZero(t *testing.T) {
	if !value.MakeNumber(true, "00", 5).IsZero() {
		t.Error("00e5 is not 0")
	}
	if value.MakeNumber(false, "10", 0).IsZero() {
		t.Error("10 is 0")
	}
}
