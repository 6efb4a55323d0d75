package amend_test

import (
	"encoding/json"
	"strconv"
	"strings"
	"testing"

	"amend/amend"
	"amend/api"
)

func diff(s string) api.Op { return api.Op{Kind: api.Diff, S: s} }

// diffs tells that DIFF tells a patch of n operations that leads from a
// document to the other value, and one back from there.
func diffs(t *testing.T, c api.Config, document, to string, n int) {
	t.Helper()
	for _, ends := range [][2]string{{document, to}, {to, document}} {
		before, behind := canonical(t, ends[0]), canonical(t, ends[1])
		p := amend.Run(c, []api.Op{load(ends[0]), diff(ends[1])})[1].Text
		expect(t, c,
			[]api.Op{diff(ends[1]), load(ends[0]), diff(ends[1]), dump, invert, patch(p), diff(ends[1]), dump},
			refused(api.ErrNone), told(""), told(p), told(before), refused(api.ErrNone), told(""), told("[]"), told(behind))
		if got := plainOperations(t, p); len(got) != n {
			t.Errorf("from %s to %s, %d cells: %d operations, want %d: %s", ends[0], ends[1], c.Cells, len(got), n, p)
		}
	}
}

// plainOperations are the operations of a patch that is to have none but add,
// remove and replace.
func plainOperations(t *testing.T, p string) []string {
	t.Helper()
	var list []json.RawMessage
	if err := json.Unmarshal([]byte(p), &list); err != nil || list == nil {
		t.Fatalf("%.100q: %v", p, err)
	}
	var operations []string
	for _, text := range list {
		var o struct{ Op string }
		if err := json.Unmarshal(text, &o); err != nil {
			t.Fatalf("%.100q: %v", text, err)
		}
		if o.Op != "add" && o.Op != "remove" && o.Op != "replace" {
			t.Errorf("an operation is %q: %s", o.Op, p)
		}
		operations = append(operations, string(text))
	}
	return operations
}

// difference is two values, and what it costs to lead from one to the other.
type difference struct {
	from, to string
	cost     int
}

func TestP8Examples(t *testing.T) {
	c := api.Config{Depth: 5, Exponent: 400, Cells: 100}
	diffs(t, c, "[1,2,3,4]", "[2,4,5]", 3)
	diffs(t, c, `{"a":1,"b":2}`, `{"a":1,"c":2}`, 2)
	c.Cells = 10
	diffs(t, c, "[1,2,3,4]", "[2,4,5]", 1)
}

func TestP8Diff(t *testing.T) {
	for _, x := range []difference{
		// The same, though it is written in another way.
		{"1", "1.0", 0}, {"null", "null", 0}, {"{}", "{ }", 0}, {"[]", "[ ]", 0}, {"-0.0", "0e400", 0}, {`"A/\n"`, `"\u0041\/\u000a"`, 0}, {`"😀"`, `"\ud83d\ude00"`, 0}, {`{"a":1,"b":[2.50,"x"]}`, `{"b":[25e-1,"\u0078"],"\u0061":10e-1}`, 0}, {"[1e2,[100,1E+2]]", "[100,[100.0,0.1e3]]", 0}, {`{"a":{"b":[{"c":null}]}}`, `{"a":{"b":[{"c":null}]}}`, 0}, {"[1e1,2]", "[10,2,1]", 1}, {`["A"]`, `["\u0041","A"]`, 1},
		// Of another kind.
		{"1", "2", 1}, {"null", "false", 1}, {"true", "false", 1}, {"1", `"1"`, 1}, {`"a"`, `"A"`, 1}, {`""`, "null", 1}, {"0", "[0]", 1}, {"[]", "{}", 1}, {"[1,2]", `{"0":1,"1":2}`, 1}, {"null", "[]", 1}, {`{"a":1}`, "1", 1}, {"1e1", "1e-1", 1}, {"-1", "1", 1},
		// Objects.
		{"{}", `{"a":1}`, 1}, {"{}", `{"a":null}`, 1}, {`{"a":null}`, `{"b":null}`, 2}, {`{"a":1}`, `{"a":2}`, 1}, {`{"a":1,"b":2}`, `{"c":1,"d":2}`, 4}, {`{"a":1,"b":2,"c":3}`, `{"a":2,"c":3,"d":4}`, 3}, {`{"a":{}}`, `{"a":[]}`, 1}, {`{"a":1}`, `{"b":{"a":1}}`, 2}, {`{"a":{"b":1}}`, `{"a":{"c":1}}`, 2}, {"{}", `{"a":{"b":{"c":1,"d":2}},"e":[1,2]}`, 2}, {`{"a":{"b":{"c":1,"d":2},"e":3}}`, `{"a":{"b":{"c":4,"d":2},"e":{"f":3}}}`, 2}, {`{"a":{"b":1,"c":2}}`, `{"a":{}}`, 2}, {`{"a":{"b":1,"c":2}}`, `{"a":null}`, 1},
	} {
		diffs(t, widest, x.from, x.to, x.cost)
	}
}

func TestP8Arrays(t *testing.T) {
	for _, x := range []difference{
		// Elements that come and go.
		{"[]", "[null]", 1}, {"[]", "[1,2,3]", 3}, {"[1,2]", "[1,3,2]", 1}, {"[1,2]", "[3,1,2]", 1}, {"[1,2]", "[1,2,3]", 1}, {"[1,2,3]", "[2]", 2}, {"[1,2,3,4]", "[5,6]", 6}, {"[1,2,3,4,5,6]", "[0,1,3,7,6,8]", 6},
		// Elements that move.
		{"[1,2]", "[2,1]", 2}, {"[1,2,3]", "[2,3,1]", 2}, {"[1,2,3]", "[3,2,1]", 4}, {"[1,2,3,4,5]", "[5,1,2,3,4]", 2}, {"[1,2,3,4,5]", "[4,5,1,2,3]", 4}, {"[1,2,3,4,5,6]", "[2,1,4,3,6,5]", 6},
		// Elements that come twice.
		{"[1,1,1]", "[1]", 2}, {"[1,1]", "[1,2,1]", 1}, {"[1,2,1,2]", "[2,1,2,1]", 2}, {"[1,1,2,2]", "[2,2,1,1]", 4}, {"[1,1,1,2,2,2,1]", "[2,1,2,1,2,1]", 5}, {"[1,2,3,1,2]", "[1,2]", 3}, {"[1,2,2,3,3,3]", "[3,2,1]", 7}, {"[[],[],{}]", "[{},[],{}]", 2}, {"[null,null]", "[null]", 1},
		// Elements that are changed within: to the cost they are others.
		{"[1]", "[2]", 2}, {`[{"a":1,"b":2},7]`, `[{"a":1,"b":3},7]`, 2}, {"[[1,2,3]]", "[[1,2,4]]", 2}, {"[[1,2,3],[4]]", "[[4],[1,2,3]]", 2}, {"[[[1]],[[2]]]", "[[[1]],[[3]],[[2]]]", 1}, {"[[1],[2,[3]]]", "[[1],[2,[3,4]]]", 2}, {"[{}]", "[[]]", 2}, {"[1,[2]]", "[1,2]", 2},
		// Objects in arrays, and arrays in objects.
		{`[{"a":[1,2]},{"b":1}]`, `[{"b":1},{"a":[1,2]}]`, 2}, {`{"a":[1,2,{"b":[1]}]}`, `{"a":[2,{"b":[1]},3],"c":[]}`, 3}, {`{"a":[{"b":{"c":[1]}}],"d":{"e":[1,2,3]}}`, `{"a":[{"b":{"c":[2]}}],"d":{"e":[1,3]}}`, 3}, {`{"a":[1],"b":[2]}`, `{"a":[2],"b":[1]}`, 4}, {`{"a":{"b":[1,2,3],"c":[]},"d":[[]]}`, `{"a":{"b":[3,2],"c":[0]},"d":[[],[]]}`, 5}, {`{"a":[1,2]}`, `{"a":{"0":1}}`, 1},
	} {
		diffs(t, widest, x.from, x.to, x.cost)
	}
}

func TestP8Keys(t *testing.T) {
	for _, x := range []difference{
		{`{"":1,"~":2,"/":3,"~1":4,"~0":5,"a/b~c":6}`, `{"":{},"~":[],"/":null,"~1":0,"~0":1,"a/b~c":2}`, 6},
		{`{"":1,"~":2,"/":3}`, `{"~0":1,"~1":2,"//":3}`, 6},
		{`{"":{"":{"~":[1]}}}`, `{"":{"":{"~":[2],"/":0}}}`, 3},
		{`{"/~":{"~/":[1,{"":2}]}}`, `{"/~":{"~/":[{"":2},1]}}`, 2},
		{`{"0":{"-":[1]}}`, `{"0":{"-":[]},"01":2}`, 2},
		{`{"é\"\\\u0001":1,"😀":[]}`, `{"é\"\\\u0001":2,"\ud83d\ude00":[0]}`, 2},
		{`{"\u0000":{"\n":1}}`, `{"\u0000":{}," ":1}`, 2},
	} {
		diffs(t, widest, x.from, x.to, x.cost)
	}
}

func TestP8Cells(t *testing.T) {
	for _, x := range []struct {
		difference
		cells, above int // the least with which arrays are compared, and the cost with fewer
	}{
		{difference{"[1,2,3,4]", "[2,4,5]", 3}, 20, 1},
		{difference{"[]", "[1,2]", 2}, 3, 1},
		{difference{"[1]", "[2]", 2}, 4, 1},
		{difference{"[1,2,3,4]", "[1,2,3,4,5]", 1}, 30, 1},
		{difference{"[1,2,3,4]", "[4,3,2,1]", 6}, 25, 1},
		{difference{`{"a":[1,2,3],"b":7}`, `{"a":[3,2,1],"b":8}`, 5}, 16, 2},
		{difference{`{"a":[1,2],"b":[1,2,3]}`, `{"a":[2,1],"b":[3,2,1]}`, 6}, 16, 3},
		{difference{`[[1,2,3],4]`, `[[3,2,1],4]`, 2}, 9, 1},
		{difference{`{"a":[1,2,{"b":3}]}`, `{"a":[1,2,{"b":4}]}`, 2}, 16, 1},
		{difference{"[" + strings.Repeat("1,", 42) + "1]", "[" + strings.Repeat("1,", 42) + "2,2]", 3}, 44 * 45, 1},
		{difference{"[" + strings.Repeat("1,", 18) + "3]", "[" + strings.Repeat("2,", 98) + "3]", 116}, 2000, 1},
	} {
		c := widest
		c.Cells = x.cells
		if c.Cells < 1000 {
			diffs(t, c, x.from, x.to, x.cost)
		} else {
			leads(t, c, load(x.from), x.to, x.cost)
		}
		c.Cells--
		diffs(t, c, x.from, x.to, x.above)
	}
}

// Objects are compared member by member, however few cells there are.
func TestP8NoCells(t *testing.T) {
	c := api.Config{Depth: 6, Exponent: 9}
	for _, x := range []difference{
		{"[]", "[1]", 1}, {"[1]", "[]", 1}, {"[1]", "[2]", 1}, {"[1,2]", "[2,1]", 1}, {"[]", "[]", 0}, {"[1.0,[2]]", "[1,[2]]", 0}, {"[[1],[2]]", "[[2],[1]]", 1}, {"1", "2", 1}, {"[]", "{}", 1},
		{`{"a":1,"b":2}`, `{"a":1,"c":2}`, 2}, {`{"a":{"b":[1,2],"c":{"d":1}}}`, `{"a":{"b":[2,1],"c":{"e":1}}}`, 3}, {`{"a":[{"b":1,"c":2}]}`, `{"a":[{"b":2,"d":2}]}`, 1}, {`{"a":[1],"b":[2]}`, `{"a":[1.0],"b":[]}`, 1},
	} {
		diffs(t, c, x.from, x.to, x.cost)
	}
	// Two arrays without elements have a table of one cell: they are the same.
	c.Cells = 1
	diffs(t, c, "[]", "[]", 0)
	diffs(t, c, "[]", "[1]", 1)
}

// leads tells that the operations of what DIFF tells, each done as a patch,
// lead from a document to the other value: so the patch may be a long one.
func leads(t *testing.T, c api.Config, ahead api.Op, to string, n int) {
	t.Helper()
	got := amend.Run(c, []api.Op{ahead, diff(to), dump})
	operations := plainOperations(t, got[1].Text)
	if len(operations) != n {
		t.Errorf("%d operations, want %d: %.100s", len(operations), n, got[1].Text)
	}
	script, want := []api.Op{ahead}, []api.Answer{told("")}
	for _, o := range operations {
		script, want = append(script, patch("["+o+"]")), append(want, told(""))
	}
	expect(t, c, append(script, dump, diff(to)), append(want, told(canonical(t, to)), told("[]"))...)
}

// The text of DIFF need not keep within MaxText, nor the cells within what a
// text can have.
func TestP8Long(t *testing.T) {
	ones := "[" + strings.Repeat("1,", 998) + "2]"
	leads(t, widest, load(ones), "[2]", 998)
	leads(t, widest, load("[2]"), ones, 998)
	leads(t, api.Config{Depth: 2, Cells: api.MaxCells - 1}, load(ones), "[2]", 1)
	leads(t, widest, load(ones), "[2,3]", 1)
	leads(t, widest, load(ones), "[]", 999)
	long := `"` + strings.Repeat("a", 1900) + `"`
	leads(t, widest, load("["+long+"]"), `["x",`+long+"]", 1)
	if got := amend.Run(widest, []api.Op{load("1"), diff("[[" + long + "]]")}); len(got[1].Text) <= len(long) || got[1].Code != api.OK {
		t.Errorf("got %+v", got[1])
	}
	// A document that is longer than a text may be.
	whole := wholeOf(api.MaxWhole)
	got := amend.Run(widest, append(whole, diff(`{"x":[]}`), diff(`{"x":0,"y":1}`), diff("{}"), diff("[1]"), dump))
	for i, want := range []int{20, 2, 1, 1} {
		if n := len(plainOperations(t, got[2+i].Text)); n != want {
			t.Errorf("DIFF %d of the long document: %d operations, want %d", i, n, want)
		}
	}
	if len(got[6].Text) != api.MaxWhole {
		t.Errorf("behind DIFF the document has %d bytes", len(got[6].Text))
	}
}

func TestP8ManyCells(t *testing.T) {
	letters := func(s string) string { return `["` + strings.Join(strings.Split(s, ""), `","`) + `"]` }
	for _, x := range []difference{
		{letters("abcabbaabcabbacbabacabcabbaabcabbacbabac"), letters("cbabaccbabacabcabbaabcabbaabcabbaabcabba"), -1},
		{letters("thequickbrownfoxjumpsoverthelazydog"), letters("pack my box with five dozen liquor jugs"), -1},
	} {
		n := modelCost(parse(t, x.from), parse(t, x.to), api.MaxCells)
		leads(t, widest, load(x.from), x.to, n)
		leads(t, widest, load(x.to), x.from, n)
	}
}

// At the depth what the operations make is not deeper either.
func TestP8AtTheDepth(t *testing.T) {
	c := api.Config{Depth: 3, Cells: 100}
	for _, x := range []difference{
		{nested(3), `{"a":{"b":1}}`, 1}, {"[[1],[]]", "[[],[1]]", 2}, {`{"a":[1],"b":{}}`, `{"a":{},"b":[1]}`, 2}, {`{"a":[[],1]}`, `{"a":[1,{}]}`, 2}, {"1", `{"a":[1,[]]}`, 1}, {`{"a":{"b":{}}}`, `{"a":{"c":[]}}`, 2}, {"[1,2,[3]]", "[[3],[4],5,1]", 5},
	} {
		diffs(t, c, x.from, x.to, x.cost)
	}
	diffs(t, api.Config{Depth: 1}, "{}", "[]", 1)
	diffs(t, api.Config{Depth: 1, Cells: 1}, "[]", "[]", 0)
}

func TestP8WrongInputs(t *testing.T) {
	for s, e := range wrongTexts() {
		expect(t, narrow,
			[]api.Op{diff(s), load(`{"a":1}`), diff(s), dump, invert, merge("{}"), diff(s), invert},
			refused(api.ErrNone), told(""), refused(e), told(`{"a":1}`), refused(api.ErrNone), told(""), refused(e), told("[]"))
	}
	diffs(t, narrow, `{"a":1}`, " \t{ \"b\" :\r\n0.01 }", 2)
	diffs(t, narrow, "1", strings.Repeat(" ", api.MaxText-2)+"{}", 1)
	no := refused(api.ErrConfig)
	for _, c := range []api.Config{{}, {Depth: 1, Cells: -1}, {Depth: 1, Cells: api.MaxCells + 1}} {
		expect(t, c, []api.Op{load("1"), diff("2"), diff("[")}, no, no, no)
	}
}

func TestP8UnnamedFields(t *testing.T) {
	expect(t, widest,
		[]api.Op{load("1"), {Kind: api.Diff, S: "1", T: "["}, {Kind: api.Diff, S: "1.0", T: "\xff"}, dump},
		told(""), told("[]"), told("[]"), told("1"))
}

// DIFF is no amendment: INVERT takes back what was done ahead of it.
func TestP8DocumentStays(t *testing.T) {
	add := patch(one("add", "path", `"/0/-"`, "value", "2"))
	back := amend.Run(widest, []api.Op{load("[[1]]"), add, invert})[2].Text
	got := amend.Run(widest, []api.Op{load("[[1]]"), add, diff("[[1,2],3]"), mergeDiff("{}"), invert, dump, add, dump})
	if got[4] != told(back) || got[5] != told("[[1,2]]") || got[7] != told("[[1,2,2]]") {
		t.Errorf("got %+v", got)
	}
}

// What a document was made by does not matter, nor what it was before.
func TestP8BehindAmendments(t *testing.T) {
	script := []api.Op{load(`{"a":[1,2,3]}`), patch(one("move", "from", `"/a/0"`, "path", `"/a/2"`)), merge(`{"b":{"c":[1.50,null]},"d":null}`), patch(one("copy", "from", `"/a"`, "path", `"/b/c/0"`))}
	const is = `{"a":[2,3,1],"b":{"c":[[2,3,1],15e-1,null]}}`
	for _, to := range []string{is, "{}", `{"a":[1,2,3]}`, `{"a":[2,1],"b":{"c":[null,1.5,[2,3,1.0]]}}`, "[" + strconv.Quote("x") + "]"} {
		got := amend.Run(widest, append(script, dump, diff(to)))
		fresh := amend.Run(widest, []api.Op{load(is), dump, diff(to)})
		if got[4] != told(is) || got[5] != fresh[2] {
			t.Errorf("to %s: %+v, of the same document as it is loaded %+v", to, got[5], fresh[2])
		}
	}
}
