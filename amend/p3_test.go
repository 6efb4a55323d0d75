package amend_test

import (
	"math"
	"strings"
	"testing"

	"amend/api"
)

func TestP3Example(t *testing.T) {
	dumps(t, widest, `{"b":1.50,"a":[1e1,-0.0,"\u0041\n"]}`, `{"a":[1e1,0,"A\u000a"],"b":15e-1}`)
	for _, s := range []string{"01", "1.", `"\ud800"`, "[1,]", "nul", ""} {
		refuses(t, widest, s, api.ErrText)
	}
	refuses(t, widest, `{"a":1,"\u0061":2}`, api.ErrTwice)
}

func TestP3Load(t *testing.T) {
	expect(t, widest,
		[]api.Op{dump, load("[1, 2]"), dump, load("["), dump, load("{}"), dump, dump},
		refused(api.ErrNone), told(""), told("[1,2]"), refused(api.ErrText), told("[1,2]"), told(""), told("{}"), told("{}"))
}

func TestP3Config(t *testing.T) {
	wrong := []api.Config{
		{}, {Depth: 0, Exponent: 1, Cells: 1}, {Depth: api.MaxDepth + 1}, {Depth: -1}, {Depth: math.MaxInt}, {Depth: math.MinInt},
		{Depth: 1, Exponent: -1}, {Depth: 1, Exponent: api.MaxExponent + 1}, {Depth: 1, Exponent: math.MaxInt},
		{Depth: 1, Cells: -1}, {Depth: 1, Cells: api.MaxCells + 1}, {Depth: 1, Cells: math.MinInt},
	}
	for _, c := range wrong {
		no := refused(api.ErrConfig)
		expect(t, c, []api.Op{load("1"), dump, {Kind: 0}, {Kind: 10}, load("["), load(strings.Repeat(" ", 3000))}, no, no, no, no, no, no)
	}
	for _, c := range []api.Config{{Depth: 1}, {Depth: 20, Exponent: 400, Cells: 2000}, {Depth: 1, Exponent: 400}, {Depth: 20, Cells: 2000}} {
		dumps(t, c, "1", "1")
	}
}

func TestP3Kind(t *testing.T) {
	for _, kind := range []int{0, -1, 10, 11, math.MaxInt, math.MinInt} {
		odd := api.Op{Kind: kind, S: "1"}
		expect(t, widest, []api.Op{odd, load("2"), odd, dump}, refused(api.ErrKind), told(""), refused(api.ErrKind), told("2"))
	}
}

func TestP3Long(t *testing.T) {
	for _, n := range []int{0, 1, 1998} {
		dumps(t, widest, strings.Repeat(" ", 1999-n)+"1"+strings.Repeat("\n", n), "1")
	}
	dumps(t, widest, `"`+strings.Repeat("é", 999)+`"`, `"`+strings.Repeat("é", 999)+`"`)
	for _, s := range []string{
		strings.Repeat(" ", 2000) + "1", "1" + strings.Repeat(" ", 2000), strings.Repeat("\xff", 2001), `"` + strings.Repeat("é", 1000) + `"`,
		`{"a":1,"a":1}` + strings.Repeat(" ", 1999), nested(1001), strings.Repeat("1", 2001),
	} {
		refuses(t, widest, s, api.ErrLong)
	}
	// What is written longer than it was read is no matter.
	dumps(t, widest, `"`+strings.Repeat(`\n`, 999)+`"`, `"`+strings.Repeat(`\u000a`, 999)+`"`)
}

func TestP3Depth(t *testing.T) {
	for depth := 1; depth <= api.MaxDepth; depth++ {
		c := api.Config{Depth: depth}
		most := nested(depth)
		dumps(t, c, most, most)
		refuses(t, c, nested(depth+1), api.ErrDepth)
		refuses(t, c, strings.Repeat("[", depth)+"1"+strings.Repeat("]", depth), api.ErrDepth)
		refuses(t, c, strings.Repeat(`{"a":`, depth)+`""`+strings.Repeat("}", depth), api.ErrDepth)
	}
	dumps(t, api.Config{Depth: 1}, "{ }", "{}")
	dumps(t, api.Config{Depth: 2}, "[1,{},[]]", "[1,{},[]]")
	// The deepest place tells, wherever it stands.
	for _, s := range []string{"[[1],2]", "[2,[1]]", "[[],[1],[]]", `{"a":[1],"b":2}`, `{"a":2,"b":[1]}`} {
		refuses(t, api.Config{Depth: 2}, s, api.ErrDepth)
		expect(t, api.Config{Depth: 3}, []api.Op{load(s)}, told(""))
	}
}

func TestP3Exponent(t *testing.T) {
	c := api.Config{Depth: 3, Exponent: 2}
	for s, want := range map[string]string{
		"100": "1e2", "1e2": "1e2", "0.01": "1e-2", "1e-2": "1e-2", "10e1": "1e2", "0.1e3": "1e2", "1000e-1": "1e2",
		"0.1e-1": "1e-2", "10e-3": "1e-2", "123456.78": "12345678e-2", "0e9": "0", "0.000": "0", "-0e-999999999999999999999": "0",
		"1000e-3": "1", "-1.00": "-1", "1.2300e+4": "123e2",
	} {
		dumps(t, c, s, want)
	}
	for _, s := range []string{
		"1000", "1e3", "0.001", "1e-3", "10e2", "0.1e4", "100e-5", "-1000", "1.234", "1e99999999999999999999999999", "1e-99999999999999999999999999",
		"1e9223372036854775808", "1e18446744073709551616", "1e-18446744073709551616", "1e4294967296", "-1e4294967297",
	} {
		refuses(t, c, s, api.ErrNumber)
		refuses(t, c, "[[1,"+s+"],2]", api.ErrNumber)
		refuses(t, c, `{"a":`+s+`,"b":1}`, api.ErrNumber)
	}
	// An exponent far off, and the point or noughts that bring it back part of the way.
	noughts := strings.Repeat("0", 1900)
	dumps(t, widest, "0."+noughts+"1e2301", "1e400")
	dumps(t, widest, "1"+noughts+"e-2300", "1e-400")
	for _, s := range []string{"0." + noughts + "1e2302", "0." + noughts + "1e99999", "1" + noughts + "e-2301", "1" + noughts + "e-99999"} {
		refuses(t, widest, s, api.ErrNumber)
	}
	whole := api.Config{Depth: 1}
	dumps(t, whole, "12", "12")
	refuses(t, whole, "10", api.ErrNumber)
	refuses(t, whole, "1.5", api.ErrNumber)
	dumps(t, whole, "1.50e1", "15")
}

func TestP3WhichErrorFirst(t *testing.T) {
	c := api.Config{Depth: 2, Exponent: 1}
	const twice, deep, far = `{"a":1,"a":1}`, "[[[1]]]", "1e9"
	for _, x := range []struct {
		s string
		e api.Errno
	}{
		{"[" + far + "," + deep + "," + twice + ",]" + strings.Repeat(" ", 2000), api.ErrLong},
		{"[" + far + "," + deep + "," + twice + ",]", api.ErrText},
		{"[" + twice + "," + deep + "," + far + "]x", api.ErrText},
		{"[" + far + "," + deep + "," + twice + "]", api.ErrTwice},
		{"[" + twice + "," + deep + "," + far + "]", api.ErrTwice},
		{`{"a":[[[1]]],"a":1}`, api.ErrTwice},
		{"[" + far + "," + deep + "]", api.ErrDepth},
		{"[" + deep + "," + far + "]", api.ErrDepth},
		{"[" + far + ",1]", api.ErrNumber},
	} {
		refuses(t, c, x.s, x.e)
	}
}

func TestP3Twice(t *testing.T) {
	for _, s := range []string{
		`{"a":1,"a":1}`, `{"a":1,"b":2,"a":3}`, `{"":1,"":2}`, `{"a":1,"\u0061":1}`, `{"\u000a":1,"\n":2}`, `{"/":1,"\/":2}`,
		`{"😀":1,"\ud83d\ude00":2}`, `{"\uD83D\uDE00":1,"\ud83d\ude00":2}`, `{"é":1,"\u00E9":1}`, `{"\u00e9":1,"\u00E9":1}`,
		`[{"x":{"a":1,"a":1}}]`, `{"a":{"a":1,"a":2}}`, `{"a":[],"a":{}}`,
	} {
		refuses(t, widest, s, api.ErrTwice)
	}
	dumps(t, widest, `{"a":{"a":1},"b":{"a":1},"A":1}`, `{"A":1,"a":{"a":1},"b":{"a":1}}`)
	// One letter, and two that look like it, are other keys.
	dumps(t, widest, `{"é":1,"e\u0301":2}`, "{\"e\u0301\":2,\"é\":1}")
}

func TestP3Order(t *testing.T) {
	dumps(t, widest, `{"b":0,"aa":1,"a":2,"":3,"B":4,"a\u0000":5}`, `{"":3,"B":4,"a":2,"a\u0000":5,"aa":1,"b":0}`)
	// Beyond FFFF: by scalar values, not by surrogates.
	dumps(t, widest, `{"\ud800\udc00":1,"\uffff":2,"\ue000":3,"\ud7ff":4}`, "{\"\ud7ff\":4,\"\ue000\":3,\"\uffff\":2,\"\U00010000\":1}")
	dumps(t, widest, `{"\"":1,"\\":2,"\n":3,"z":4,"!":5,"]":6,"[":7}`, `{"\u000a":3,"!":5,"\"":1,"[":7,"\\":2,"]":6,"z":4}`)
}
