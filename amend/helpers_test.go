package amend_test

import (
	"strings"
	"testing"

	"amend/amend"
	"amend/api"
)

var widest = api.Config{Depth: api.MaxDepth, Exponent: api.MaxExponent, Cells: api.MaxCells}

func load(s string) api.Op { return api.Op{Kind: api.Load, S: s} }

var dump = api.Op{Kind: api.Dump}

func told(s string) api.Answer { return api.Answer{Text: s} }

func refused(e api.Errno) api.Answer { return api.Answer{Code: e} }

// expect runs a script and holds its answers against those wanted.
func expect(t *testing.T, c api.Config, script []api.Op, want ...api.Answer) {
	t.Helper()
	got := amend.Run(c, script)
	if len(got) != len(script) || len(got) != len(want) {
		t.Fatalf("%d answers to %d steps, want %d", len(got), len(script), len(want))
	}
	for i := range want {
		if got[i] != want[i] {
			t.Errorf("step %d, kind %d, %.60q: got %+v, want %+v", i, script[i].Kind, script[i].S, got[i], want[i])
		}
	}
}

// dumps tells that a text is loaded, and dumped so.
func dumps(t *testing.T, c api.Config, s, want string) {
	t.Helper()
	expect(t, c, []api.Op{load(s), dump}, told(""), told(want))
}

// refuses tells that a text is refused, and the document stays.
func refuses(t *testing.T, c api.Config, s string, e api.Errno) {
	t.Helper()
	expect(t, c, []api.Op{load("7"), load(s), dump}, told(""), refused(e), told("7"))
	expect(t, c, []api.Op{load(s), dump}, refused(e), refused(api.ErrNone))
}

// nested is a text of n arrays, one in the other.
func nested(n int) string { return strings.Repeat("[", n) + strings.Repeat("]", n) }

// canonical is the canonical text of a text's value.
func canonical(t *testing.T, s string) string {
	t.Helper()
	a := amend.Run(widest, []api.Op{load(s), dump})
	if a[1].Code != api.OK {
		t.Fatalf("%.60q: %+v", s, a)
	}
	return a[1].Text
}
