package amend_test

import (
	"strings"
	"testing"

	"amend/amend"
	"amend/api"
)

var widest = api.Config{Depth: api.MaxDepth, Exponent: api.MaxExponent, Cells: api.MaxCells}

func load(s string) api.Op { return api.Op{Kind: api.Load, S: s} }

var dump = api.Op{Kind: api.Dump}

func told(s string) api.Answer { return api.Answer{Text: s} }

func refused(e api.Errno) api.Answer { return api.Answer{Code: e} }

// expect runs a script and holds its answers against those wanted.
func expect(t *testing.T, c api.Config, script []api.Op, want ...api.Answer) {
	t.Helper()
	got := amend.Run(c, script)
	if len(got) != len(script) || len(got) != len(want) {
		t.Fatalf("%d answers to %d steps, want %d", len(got), len(script), len(want))
	}
	for i := range want {
		if got[i] != want[i] {
			t.Errorf("step %d, kind %d, %.60q: got %+v, want %+v", i, script[i].Kind, script[i].S, got[i], want[i])
		}
	}
}

// dumps tells that a text is loaded, and dumped so.
func dumps(t *testing.T, c api.Config, s, want string) {
	t.Helper()
	expect(t, c, []api.Op{load(s), dump}, told(""), told(want))
}

// refuses tells that a text is refused, and the document stays.
func refuses(t *testing.T, c api.Config, s string, e api.Errno) {
	t.Helper()
	expect(t, c, []api.Op{load("7"), load(s), dump}, told(""), refused(e), told("7"))
	expect(t, c, []api.Op{load(s), dump}, refused(e), refused(api.ErrNone))
}

func patch(s string) api.Op { return api.Op{Kind: api.Patch, S: s} }

var invert = api.Op{Kind: api.Invert}

// refusedAt is the answer to a patch with an error in one of its operations.
func refusedAt(e api.Errno, at int) api.Answer { return api.Answer{Code: e, At: at} }

// patches tells what a patch makes of a document, and that what INVERT tells
// behind it leads back, and then forth again.
func patches(t *testing.T, c api.Config, document, p, want string) {
	t.Helper()
	amends(t, c, document, patch(p), want)
}

// amends tells that of a PATCH or a MERGE.
func amends(t *testing.T, c api.Config, document string, step api.Op, want string) {
	t.Helper()
	before, want := canonical(t, document), canonical(t, want)
	expect(t, c, []api.Op{step, load(document), step, dump}, refused(api.ErrNone), told(""), told(""), told(want))
	back := amend.Run(c, []api.Op{load(document), step, invert})[2].Text
	forth := amend.Run(c, []api.Op{load(document), step, patch(back), invert})[3].Text
	expect(t, c,
		[]api.Op{load(document), step, invert, dump, patch(back), dump, invert, patch(forth), dump},
		told(""), told(""), told(back), told(want), told(""), told(before), told(forth), told(""), told(want))
}

// patchRefused tells that a patch is refused, and the document stays.
func patchRefused(t *testing.T, c api.Config, document, p string, want api.Answer) {
	t.Helper()
	expect(t, c,
		[]api.Op{patch(p), load(document), patch(p), dump, invert, patch("[]"), patch(p), dump, invert},
		refused(api.ErrNone), told(""), want, told(canonical(t, document)), refused(api.ErrNone), told(""), want, told(canonical(t, document)), told("[]"))
}

// narrow is a configuration to which a text is easily too deep, or has a number
// out of reach.
var narrow = api.Config{Depth: 2, Exponent: 2}

// wrongTexts are texts that are not to be read with it, and why.
func wrongTexts() map[string]api.Errno {
	return map[string]api.Errno{
		strings.Repeat(" ", api.MaxText) + "1": api.ErrLong, strings.Repeat("x", api.MaxText+1): api.ErrLong,
		"": api.ErrText, "{": api.ErrText, "{a:1}": api.ErrText, `{"a":1,}`: api.ErrText, "01": api.ErrText, "[1 2]": api.ErrText, `"\ud800"`: api.ErrText,
		`{"a":1,"\u0061":[[1e3]]}`: api.ErrTwice, `{"a":{"b":1,"b":2}}`: api.ErrTwice,
		`{"a":[[1e3]]}`: api.ErrDepth, `{"a":{"b":1}}`: api.ErrDepth, `{"a":{"b":null}}`: api.ErrDepth, nested(3): api.ErrDepth,
		`{"a":1e3}`: api.ErrNumber, "0.001": api.ErrNumber, "[0e9,1e-3]": api.ErrNumber,
	}
}

// nested is a text of n arrays, one in the other.
func nested(n int) string { return strings.Repeat("[", n) + strings.Repeat("]", n) }

// canonical is the canonical text of a text's value.
func canonical(t *testing.T, s string) string {
	t.Helper()
	a := amend.Run(widest, []api.Op{load(s), dump})
	if a[1].Code != api.OK {
		t.Fatalf("%.60q: %+v", s, a)
	}
	return a[1].Text
}
