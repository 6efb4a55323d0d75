package amend_test

import (
	"math"
	"strings"
	"testing"

	"amend/amend"
	"amend/api"
)

func TestP1EmptyScript(t *testing.T) {
	for _, c := range []api.Config{widest, {}} {
		for _, script := range [][]api.Op{nil, {}} {
			if got := amend.Run(c, script); len(got) != 0 {
				t.Errorf("%d answers to no step", len(got))
			}
		}
	}
}

func TestP1AnswersInOrder(t *testing.T) {
	var script []api.Op
	var want []api.Answer
	for i := range 500 {
		digit := string(rune('1' + i%9))
		script = append(script, load(digit), load("x"), api.Op{Kind: -i}, dump)
		want = append(want, told(""), refused(api.ErrText), refused(api.ErrKind), told(digit))
	}
	expect(t, widest, script, want...)
}

func TestP1OddInputs(t *testing.T) {
	texts := []string{
		"", "\x00", "\xff", strings.Repeat("[", 2000), strings.Repeat(`{"":`, 500), strings.Repeat("[", 2001),
		strings.Repeat("\"", 2000), strings.Repeat(`\`, 2000), `"` + strings.Repeat(`\u`, 900), strings.Repeat("-", 2000),
		strings.Repeat("9", 2000), "1e" + strings.Repeat("9", 1998), "1e-" + strings.Repeat("9", 1997),
		strings.Repeat("x", 1<<20), nested(1000), `"\ud800\u`, `"\ud800\`, `"\`, `"\u`, `{"a"`, "-", "1.", "1e", "1e-",
		strings.Repeat("/", 5000), "/a/" + strings.Repeat("9", 5000), "/a/0" + strings.Repeat("0", 5000), "/a/-1", "/a/-9223372036854775808", "/~", "/\xff", strings.Repeat("/a/0", 500),
		"[]", "[[]]", "[{}]", "[null]", `[{"op":"add","path":"/a/-","value":{"a":[]}}]`, `[{"op":"remove","path":""}]`, `[{"op":"move","from":"","path":"/a"}]`, `[{"op":"copy","from":"/a/9","path":"/a/-"}]`,
		`[{"op":"add","path":"/a/9223372036854775808","value":1}]`, `[{"op":"add","path":"/a/-1","value":1}]`, `[{"op":"remove","path":"/a/-"}]`, `[{"op":null,"path":null,"from":null,"value":null}]`,
		"{}", `{"a":null}`, `{"a":[]}`, `{"a":{"a":null}}`, `{"b":{"c":{"d":null}},"a":[null,[2]]}`, `{"a":[` + strings.Repeat("1,", 990) + "1]}", `{"a":` + nested(19) + "}",
		"[" + strings.Repeat(`{"op":"copy","from":"","path":"/a/-"},`, 50) + `{"op":"test","path":"","value":1}]`,
		"[" + strings.Repeat(`{"op":"move","from":"/a/0","path":"/a"},{"op":"copy","from":"","path":""},`, 20) + `{"op":"remove","path":"/a"}]`,
	}
	kinds := []int{math.MinInt, -1, 0, 1, 2, 3, 4, 5, 6, 7, 8, 9, 10, math.MaxInt}
	bounds := []int{math.MinInt, -1, 0, 1, 20, 21, 400, 2000, math.MaxInt}
	var script []api.Op
	for _, s := range texts {
		for _, kind := range kinds {
			script = append(script, api.Op{Kind: kind, S: s, T: s}, load(`{"a":[1]}`), api.Op{Kind: kind, S: s, T: s}, dump)
		}
	}
	for _, n := range bounds {
		for _, c := range []api.Config{{Depth: n}, {Depth: 20, Exponent: n}, {Depth: 20, Cells: n}, {Depth: n, Exponent: n, Cells: n}} {
			if got := amend.Run(c, script); len(got) != len(script) {
				t.Fatalf("%+v: %d answers to %d steps", c, len(got), len(script))
			}
		}
	}
}
