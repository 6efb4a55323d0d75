package amend_test

import (
	"strings"
	"testing"

	"amend/amend"
	"amend/api"
)

func merge(s string) api.Op { return api.Op{Kind: api.Merge, S: s} }

func mergeDiff(s string) api.Op { return api.Op{Kind: api.MergeDiff, S: s} }

// merges tells what a merge patch makes of a document: once, and twice too.
func merges(t *testing.T, c api.Config, document, p, want string) {
	t.Helper()
	amends(t, c, document, merge(p), want)
	amends(t, c, want, merge(p), want)
	expect(t, c, []api.Op{load(document), merge(p), merge(p), dump}, told(""), told(""), told(""), told(canonical(t, want)))
}

// mergeRefused tells that a merge patch is refused, and the document stays.
func mergeRefused(t *testing.T, c api.Config, document, p string, e api.Errno) {
	t.Helper()
	expect(t, c,
		[]api.Op{merge(p), load(document), merge(p), dump, invert, merge("{}"), invert},
		refused(api.ErrNone), told(""), refused(e), told(canonical(t, document)), refused(api.ErrNone), told(""), told("[]"))
}

// mergeDiffs tells that MERGEDIFF tells a merge patch that makes the other
// value of a document.
func mergeDiffs(t *testing.T, c api.Config, document, to string) {
	t.Helper()
	p := amend.Run(c, []api.Op{load(document), mergeDiff(to)})[1].Text
	expect(t, c,
		[]api.Op{mergeDiff(to), load(document), mergeDiff(to), dump, invert, merge(p), dump},
		refused(api.ErrNone), told(""), told(p), told(canonical(t, document)), refused(api.ErrNone), told(""), told(canonical(t, to)))
	if canonical(t, p) != p {
		t.Errorf("from %s to %s: %s", document, to, p)
	}
}

// mergeNever tells that no merge patch makes the other value of a document.
func mergeNever(t *testing.T, c api.Config, document, to string) {
	t.Helper()
	expect(t, c,
		[]api.Op{mergeDiff(to), load(document), mergeDiff(to), dump, invert},
		refused(api.ErrNone), told(""), refused(api.ErrNever), told(canonical(t, document)), refused(api.ErrNone))
}

func TestP7Examples(t *testing.T) {
	merges(t, widest, `{"a":1,"b":{"c":2}}`, `{"a":null,"b":{"d":3},"e":{"f":null}}`, `{"b":{"c":2,"d":3},"e":{}}`)
	mergeNever(t, widest, `{"a":1}`, `{"a":null}`)
	mergeNever(t, widest, `{"a":1}`, `{"b":null}`)
	mergeDiffs(t, widest, `{"a":null}`, `{"a":null,"b":[null]}`)
}

func TestP7Merge(t *testing.T) {
	for _, x := range []struct{ document, p, want string }{
		// A merge patch that is no object.
		{`{"a":1}`, "7", "7"}, {`{"a":1}`, "null", "null"}, {`{"a":1}`, "[]", "[]"}, {`{"a":1}`, `[null,{"a":null}]`, `[null,{"a":null}]`}, {"null", "null", "null"}, {"1", `"x"`, `"x"`}, {"[1,2]", "[3]", "[3]"}, {"1", "1.0", "1"},
		// Null, for what is there, and for what is not there.
		{`{"a":1,"b":2}`, `{"a":null}`, `{"b":2}`}, {`{"a":1}`, `{"a":null}`, "{}"}, {`{"a":null}`, `{"a":null}`, "{}"}, {`{"a":1}`, `{"b":null}`, `{"a":1}`}, {"{}", `{"b":null,"c":null}`, "{}"}, {`{"a":{"b":{"c":1}}}`, `{"a":{"b":null}}`, `{"a":{}}`}, {`{"a":{"b":{"c":1}}}`, `{"a":{"c":null,"b":{"d":null}}}`, `{"a":{"b":{"c":1}}}`},
		{`{"a":null,"b":{"c":null}}`, `{"b":{"d":1}}`, `{"a":null,"b":{"c":null,"d":1}}`}, {`{"a":null}`, `{"a":1}`, `{"a":1}`}, {`{"a":null}`, `{"a":{"b":null}}`, `{"a":{}}`},
		// Null within an array.
		{`{"a":1}`, `{"a":[null]}`, `{"a":[null]}`}, {`{"a":[1,2]}`, `{"a":[{"b":null,"c":[null]},null]}`, `{"a":[{"b":null,"c":[null]},null]}`}, {"{}", `{"a":{"b":[[{"c":null}]],"d":null}}`, `{"a":{"b":[[{"c":null}]]}}`}, {`{"a":[{"b":1}]}`, `{"a":[{"b":null}]}`, `{"a":[{"b":null}]}`},
		// An object, merged into what is none.
		{"1", `{"a":1}`, `{"a":1}`}, {"null", `{"a":null}`, "{}"}, {"[1,2]", `{"0":3}`, `{"0":3}`}, {`"x"`, `{"a":{"b":null,"c":{"d":null,"e":0}}}`, `{"a":{"c":{"e":0}}}`}, {`{"a":[1]}`, `{"a":{"b":2,"c":null}}`, `{"a":{"b":2}}`}, {`{"a":true}`, `{"a":{"b":{"c":null}}}`, `{"a":{"b":{}}}`}, {`{"a":1}`, `{"b":{"c":{"d":2}}}`, `{"a":1,"b":{"c":{"d":2}}}`},
		// What has nothing in it.
		{"{}", "{}", "{}"}, {`{"a":1}`, "{}", `{"a":1}`}, {"1", "{}", "{}"}, {"[]", "{}", "{}"}, {`{"a":1}`, `{"a":{}}`, `{"a":{}}`}, {`{"a":{"b":1}}`, `{"a":{}}`, `{"a":{"b":1}}`}, {`{"a":{"b":1}}`, `{"a":[]}`, `{"a":[]}`}, {"{}", `{"a":{}}`, `{"a":{}}`}, {"{}", "[]", "[]"}, {`{"a":{}}`, `{"a":{"b":{}}}`, `{"a":{"b":{}}}`},
		// Keys are keys, not pointers, nor numbers.
		{`{"":1,"~":2,"/":3}`, `{"":{"":4},"~":null,"~1":5,"/":{"~0":6}}`, `{"":{"":4},"/":{"~0":6},"~1":5}`}, {`{"0":{"-":1}}`, `{"0":{"-":null,"1":2}}`, `{"0":{"1":2}}`}, {`{"\u0061":1}`, `{"a":null,"\ud83d\ude00":1}`, `{"😀":1}`},
		// Numbers and strings that are written in another way.
		{`{"a":1.50}`, `{"a":15e-1,"b":-0.0,"c":"\u0041\n"}`, `{"a":1.5,"b":0,"c":"A\u000a"}`},
		{`{"a":{"b":1,"c":{"d":2,"e":[3]}},"f":[{"g":4}]}`, `{"a":{"b":{"x":1},"c":{"d":null,"e":null,"h":[]}},"f":{"g":null},"i":"j"}`, `{"a":{"b":{"x":1},"c":{"h":[]}},"f":{},"i":"j"}`},
	} {
		merges(t, widest, x.document, x.p, x.want)
	}
}

func TestP7Reading(t *testing.T) {
	c := narrow
	long := strings.Repeat(" ", 1998)
	for s, e := range wrongTexts() {
		mergeRefused(t, c, `{"a":1}`, s, e)
		expect(t, c, []api.Op{mergeDiff(s), load(`{"a":1}`), mergeDiff(s), dump}, refused(api.ErrNone), told(""), refused(e), told(`{"a":1}`))
	}
	merges(t, c, `{"a":1}`, " \t{ \"a\" :\r\n100 }", `{"a":1e2}`)
	merges(t, c, "1", long+"{}", "{}")
	mergeDiffs(t, c, `{"a":1}`, " \t{ \"b\" :\r\n0.01 }")
	merges(t, api.Config{Depth: 1}, "[]", `{}`, "{}")
	mergeRefused(t, api.Config{Depth: 1}, "{}", `{"a":null}`, api.ErrDepth)
	no := refused(api.ErrConfig)
	expect(t, api.Config{}, []api.Op{load("1"), merge("{}"), merge("["), mergeDiff("1"), mergeDiff("[")}, no, no, no, no, no)
}

// At the depth what is merged is not deeper either.
func TestP7MergeAtTheDepth(t *testing.T) {
	c := api.Config{Depth: 3}
	merges(t, c, `{"a":{"b":1},"c":[[]]}`, `{"a":{"c":{},"b":null},"c":{"d":[]},"e":{"f":null}}`, `{"a":{"c":{}},"c":{"d":[]},"e":{}}`)
	merges(t, c, nested(3), `{"a":{"b":{}}}`, `{"a":{"b":{}}}`)
	merges(t, c, `{"a":{"b":1}}`, `{"a":{"b":{}}}`, `{"a":{"b":{}}}`)
}

// wholeOf is a script that makes a document of n bytes, of an object that has
// the key x.
func wholeOf(n int) []api.Op {
	const letters, copies = 1000, 18
	// {"x":["aaa…",…,"bbb…"]}
	rest := n - len(`{"x":[""]}`) - (copies+1)*(letters+len(`"",`))
	long, last := strings.Repeat("a", letters), strings.Repeat("b", rest)
	o := operation("copy", "from", `"/x/0"`, "path", `"/x/0"`)
	return []api.Op{load(`{"x":["` + long + `","` + last + `"]}`), patch("[" + strings.TrimSuffix(strings.Repeat(o+",", copies), ",") + "]")}
}

func TestP7MergeLong(t *testing.T) {
	// {"y":1} brings 6 bytes.
	for n, e := range map[int]api.Errno{api.MaxWhole - 7: api.OK, api.MaxWhole - 6: api.OK, api.MaxWhole - 5: api.ErrLong, api.MaxWhole: api.ErrLong} {
		script := wholeOf(n)
		got := amend.Run(widest, append(script, dump, merge(`{"y":1}`), dump, invert))
		if got[1] != told("") || len(got[2].Text) != n || got[3] != refused(e) {
			t.Fatalf("of %d bytes: codes %d and %d", len(got[2].Text), got[1].Code, got[3].Code)
		}
		if want := strings.TrimSuffix(got[2].Text, "}") + `,"y":1}`; e == api.OK && got[4].Text != want {
			t.Errorf("of %d bytes: merged, %d bytes", n, len(got[4].Text))
		}
		if e == api.OK {
			continue
		}
		// Nothing is changed, and what INVERT takes back is the patch.
		if ahead := amend.Run(widest, append(script, invert)); got[4] != got[2] || got[5] != ahead[2] {
			t.Errorf("of %d bytes: refused, and changed", n)
		}
	}
	full := wholeOf(api.MaxWhole)
	for p, e := range map[string]api.Errno{
		"{}": api.OK, `{"x":null}`: api.OK, `{"y":null}`: api.OK, "1": api.OK, `{"y":{"z":null}}`: api.ErrLong, `{"":0}`: api.ErrLong, `{"x":{}}`: api.OK,
		// It is what comes of all of it that counts.
		`{"a":"` + strings.Repeat("a", 1000) + `","x":0,"y":1}`: api.OK, `{"a":1,"x":{"b":null}}`: api.OK,
	} {
		got := amend.Run(widest, append(full, dump, merge(p), dump))
		if got[3] != refused(e) || e != api.OK && got[4] != got[2] {
			t.Errorf("MERGE %.40s: code %d, want %d", p, got[3].Code, e)
		}
	}
	// What is written longer than it was read.
	expect(t, widest, append(wholeOf(api.MaxWhole-14), merge(`{"y":"\n\n"}`), merge(`{"y":"\n"}`), merge(`{"y":"\n12"}`), merge(`{"y":"\n1"}`)),
		told(""), told(""), refused(api.ErrLong), told(""), refused(api.ErrLong), told(""))
}

func TestP7MergeNothingIsShared(t *testing.T) {
	add := patch("[" + operation("add", "path", `"/a/b/0"`, "value", "1") + "," + operation("copy", "from", `"/a"`, "path", `"/c"`) + "]")
	expect(t, widest,
		[]api.Op{load("{}"), merge(`{"a":{"b":[]}}`), add, merge(`{"c":{"b":[2],"d":null},"e":{"a":{}}}`), merge(`{"a":{"f":3}}`), merge(`{"e":{"a":{"g":4}}}`), dump},
		told(""), told(""), told(""), told(""), told(""), told(""), told(`{"a":{"b":[1],"f":3},"c":{"b":[2]},"e":{"a":{"g":4}}}`))
}

func TestP7MergeDiff(t *testing.T) {
	for _, x := range []struct{ document, to string }{
		// What is the same.
		{"1", "1.0"}, {"null", "null"}, {"{}", "{ }"}, {"[null]", "[null]"}, {`{"a":null,"b":{"c":null,"d":[null]}}`, `{"b":{"d":[null],"c":null},"a":null}`}, {`{"a":"A"}`, `{"\u0061":"\u0041"}`},
		// No object, at one end or both.
		{"1", "2"}, {"1", "null"}, {`{"a":1}`, "null"}, {`{"a":1}`, "[null]"}, {"[1]", `[{"a":null}]`}, {"1", "{}"}, {"null", `{"a":1}`}, {"[1,2]", `{"0":1,"1":2}`}, {"true", `{"a":{"b":{}}}`}, {`{"a":null}`, "1"},
		// Members that come, go, and change.
		{"{}", `{"a":1}`}, {`{"a":1}`, "{}"}, {`{"a":null}`, "{}"}, {`{"a":1}`, `{"b":1}`}, {`{"a":1}`, `{"a":2}`}, {`{"a":1}`, `{"a":{}}`}, {`{"a":{}}`, `{"a":1}`}, {`{"a":{"b":1}}`, `{"a":{}}`}, {`{"a":{"b":1}}`, `{"a":[]}`}, {`{"a":[1]}`, `{"a":{"b":[]}}`},
		{`{"a":{"b":{"c":1,"d":2}}}`, `{"a":{"b":{"c":1,"e":{}}},"f":[null,{"g":null}]}`}, {`{"a":{"b":1},"c":{"d":2}}`, `{"a":{"b":1},"c":{}}`}, {"{}", `{"a":{"b":{"c":{}}}}`},
		// Nulls that stay where they are.
		{`{"a":null}`, `{"a":null,"b":1}`}, {`{"a":null,"b":1}`, `{"a":null}`}, {`{"a":null,"b":null}`, `{"b":null}`}, {`{"a":{"b":null,"c":1}}`, `{"a":{"b":null,"c":2}}`}, {`{"a":{"b":{"c":null}},"d":1}`, `{"a":{"b":{"c":null},"x":{}}}`},
		{`{"a":null}`, `{"a":1}`}, {`{"a":null}`, `{"a":{"b":1}}`}, {`{"a":[null]}`, `{"a":[null,null]}`}, {`{"a":[1]}`, `{"a":[{"b":null}]}`},
		// Keys as they come.
		{`{"":1,"~":2,"/":3,"~1":4}`, `{"":{"":1},"/":{"~0":0},"~1":4}`}, {`{"é\"\\\u0001":1}`, `{"é\"\\\u0002":1,"😀":[]}`},
	} {
		mergeDiffs(t, widest, x.document, x.to)
		mergeDiffs(t, widest, x.to, x.to)
	}
}

func TestP7MergeDiffNever(t *testing.T) {
	for _, x := range []struct{ document, to string }{
		{"1", `{"a":null}`}, {"null", `{"a":null}`}, {"[null]", `{"0":null}`}, {"{}", `{"a":null}`}, {`{"a":1}`, `{"a":null}`}, {`{"a":{}}`, `{"a":null}`}, {`{"a":[null]}`, `{"a":null}`}, {`{"a":false}`, `{"a":null}`}, {`{"a":null}`, `{"b":null}`}, {`{"a":null}`, `{"a":null,"b":null}`},
		// Deeper down.
		{`{"a":null}`, `{"a":{"a":null}}`}, {"{}", `{"a":{"b":null}}`}, {"1", `{"a":{"b":{"c":null}}}`}, {`{"a":{"b":1}}`, `{"a":{"b":null}}`}, {`{"a":{"b":null}}`, `{"b":{"b":null}}`}, {`{"a":{"b":null}}`, `{"a":{"b":null},"c":{"b":null}}`}, {`{"a":{"b":null}}`, `{"a":{"b":null,"c":null}}`}, {`{"a":[{"b":null}]}`, `{"a":{"b":null}}`}, {`{"a":{"b":null}}`, `{"a":{"b":{"c":null}}}`},
		{`{"a":{"b":{"c":0,"d":null}},"e":1}`, `{"a":{"b":{"c":null,"d":null}},"e":2}`}, {`{"a":null}`, `{"b":[null],"c":null}`}, {`{"~/":1}`, `{"~/":null}`}, {`{"":1}`, `{"":null}`}, {`{"a":1,"b":2,"c":3}`, `{"a":1,"b":4,"c":null}`},
	} {
		mergeNever(t, widest, x.document, x.to)
		mergeDiffs(t, widest, x.to, x.to)
		mergeDiffs(t, widest, x.document, "["+x.to+"]")
	}
}

func TestP7MergeDiffAtTheDepth(t *testing.T) {
	mergeDiffs(t, api.Config{Depth: 1}, "{}", "{}")
	mergeDiffs(t, api.Config{Depth: 1}, "[]", "{}")
	for _, x := range []struct{ document, to string }{
		{`{"a":1}`, "{}"}, {`{"a":1}`, `{"b":{}}`}, {`{"a":{}}`, `{"b":[]}`}, {"[[]]", `{"a":[]}`},
	} {
		mergeDiffs(t, api.Config{Depth: 2}, x.document, x.to)
	}
	mergeDiffs(t, api.Config{Depth: 3}, `{"a":{"b":1}}`, `{"a":{}}`)
	mergeDiffs(t, api.Config{Depth: 3}, `{"a":{"b":1}}`, `{"a":{"c":{}}}`)
}

// The text of MERGEDIFF need not keep within MaxText.
func TestP7MergeDiffLong(t *testing.T) {
	script := []api.Op{load("{}")}
	for _, letter := range "abc" {
		script = append(script, merge(`{"`+strings.Repeat(string(letter), 900)+`":1}`))
	}
	got := amend.Run(widest, append(script, mergeDiff("{}"), mergeDiff("0")))
	if want := strings.ReplaceAll(lastDump(script), ":1", ":null"); got[4] != told(want) || got[5] != told("0") {
		t.Errorf("got %+v, want %s", got[4:], want)
	}
}

func TestP7UnnamedFields(t *testing.T) {
	expect(t, widest,
		[]api.Op{load("{}"), {Kind: api.Merge, S: `{"a":1}`, T: "["}, {Kind: api.MergeDiff, S: "2", T: "\xff"}, dump},
		told(""), told(""), told("2"), told(`{"a":1}`))
}
