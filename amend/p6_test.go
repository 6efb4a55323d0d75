package amend_test

import (
	"strings"
	"testing"

	"amend/amend"
	"amend/api"
)

func TestP6NothingToTakeBack(t *testing.T) {
	none := refused(api.ErrNone)
	expect(t, widest,
		[]api.Op{invert, load("["), invert, load("[1]"), invert, dump, get("/0"), test("/0", "1"), invert, patch("["), invert, patch("7"), invert, patch(`[{"op":"remove","path":"/0"},{"op":"remove","path":"/0"}]`), invert, dump},
		none, refused(api.ErrText), none, told(""), none, told("[1]"), told("1"), told(""), none, refused(api.ErrText), none, refused(api.ErrPatch), none, refusedAt(api.ErrTarget, 1), none, told("[1]"))
}

func TestP6LoadForgets(t *testing.T) {
	add := patch(one("add", "path", `"/-"`, "value", "2"))
	got := amend.Run(widest, []api.Op{load("[1]"), add, load("[3]"), invert, add, load("["), invert, load("[4]"), invert})
	if got[3] != refused(api.ErrNone) || got[8] != refused(api.ErrNone) {
		t.Errorf("behind a LOAD: %+v and %+v", got[3], got[8])
	}
	// A LOAD that is refused changes nothing: the patch ahead of it can be taken back.
	expect(t, widest, []api.Op{load("[3]"), add, load("["), patch(got[6].Text), dump}, told(""), told(""), refused(api.ErrText), told(""), told("[3]"))
}

func TestP6TheLastPatchAlone(t *testing.T) {
	first, second := patch(one("add", "path", `"/a"`, "value", "1")), patch(one("add", "path", `"/b"`, "value", "2"))
	got := amend.Run(widest, []api.Op{load("{}"), first, invert, second, invert, patch("[7]"), invert, patch(one("remove", "path", `"/c"`)), invert, patch("[]"), invert})
	expect(t, widest, []api.Op{load("{}"), first, patch(got[2].Text), dump}, told(""), told(""), told(""), told("{}"))
	expect(t, widest, []api.Op{load("{}"), first, second, patch(got[4].Text), dump}, told(""), told(""), told(""), told(""), told(`{"a":1}`))
	// Patches that are refused are none of those to be taken back.
	if got[6] != got[4] || got[8] != got[4] {
		t.Errorf("%+v, and behind patches that are refused %+v and %+v", got[4], got[6], got[8])
	}
	// One that is done is one, whether it changes anything or not.
	if got[10].Code != api.OK {
		t.Fatalf("behind a patch that does nothing: %+v", got[10])
	}
	expect(t, widest, []api.Op{load("{}"), first, second, patch("[]"), patch(got[10].Text), dump}, told(""), told(""), told(""), told(""), told(""), told(`{"a":1,"b":2}`))
}

// Here patches holds what INVERT tells against what was.
func TestP6BackAndForth(t *testing.T) {
	for _, x := range []struct {
		document string
		patch    []string
		want     string
	}{
		{"[1,2]", nil, "[1,2]"},
		{"[1,2]", []string{operation("test", "path", `"/0"`, "value", "1"), operation("move", "from", `"/1"`, "path", `"/1"`)}, "[1,2]"},
		{"[1,2]", []string{operation("add", "path", `"/1"`, "value", "9"), operation("remove", "path", `"/0"`)}, "[9,2]"},
		{"[1,2]", []string{operation("add", "path", `"/-"`, "value", "9"), operation("add", "path", `"/-"`, "value", "8"), operation("add", "path", `"/4"`, "value", "7")}, "[1,2,9,8,7]"},
		{"1", []string{operation("replace", "path", `""`, "value", `{"~/":[]}`), operation("add", "path", `"/~0~1/-"`, "value", "2"), operation("add", "path", `"/~1~0"`, "value", "3"), operation("remove", "path", `"/~0~1"`)}, `{"/~":3}`},
		{`{"":1,"\u0001\"\\é😀":{"~01":2}}`, []string{operation("replace", "path", `"/"`, "value", "2"), operation("remove", "path", `"/\u0001\"\\é😀/~001"`), operation("add", "path", `"//"`, "value", "3")}, ""},
		{`{"":{},"\u0001\"\\é😀":{"~01":2}}`, []string{operation("replace", "path", `"/"`, "value", `{"":4}`), operation("remove", "path", `"/\u0001\"\\é😀/~001"`), operation("add", "path", `"//"`, "value", "3")}, `{"":{"":3},"\u0001\"\\é😀":{}}`},
		{`{"a":{"b":[1,null]}}`, []string{operation("move", "from", `"/a/b"`, "path", `"/c"`), operation("remove", "path", `"/a"`), operation("add", "path", `"/c/0"`, "value", "{}")}, `{"c":[{},1,null]}`},
		{`{"a":{"b":{"c":1}}}`, []string{operation("move", "from", `"/a/b"`, "path", `"/a"`), operation("add", "path", `"/a/c"`, "value", "2")}, `{"a":{"c":2}}`},
		{`{"a":{"b":[1]}}`, []string{operation("move", "from", `"/a/b"`, "path", `""`), operation("add", "path", `"/-"`, "value", "2"), operation("move", "from", `"/1"`, "path", `""`)}, "2"},
		{"[[[1,2]],3]", []string{operation("move", "from", `"/0/0"`, "path", `"/0"`), operation("move", "from", `"/0/1"`, "path", `"/0"`)}, "[2,[1],[],3]"},
		{`{"a":[1],"b":[2]}`, []string{operation("copy", "from", `"/a"`, "path", `"/b"`), operation("add", "path", `"/b/-"`, "value", "3"), operation("add", "path", `"/a/-"`, "value", "4"), operation("move", "from", `"/b"`, "path", `"/a"`), operation("remove", "path", `"/a/0"`)}, `{"a":[3]}`},
		{`{"a":[1.50,-2e7,1e-3],"b":true}`, []string{operation("remove", "path", `"/a"`), operation("replace", "path", `"/b"`, "value", "null")}, `{"b":null}`},
		{`[{"a":[0]}]`, []string{operation("remove", "path", `"/0/a/0"`), operation("remove", "path", `"/0/a"`), operation("remove", "path", `"/0"`), operation("add", "path", `""`, "value", "{}")}, "{}"},
	} {
		p := "[" + strings.Join(x.patch, ",") + "]"
		if x.want == "" {
			patchRefused(t, widest, x.document, p, refusedAt(api.ErrTarget, 2))
			continue
		}
		patches(t, widest, x.document, p, x.want)
	}
}

func TestP6DocumentStays(t *testing.T) {
	p := patch("[" + operation("move", "from", `"/a/0"`, "path", `"/b"`) + "," + operation("add", "path", `"/b/c"`, "value", "1") + "]")
	want := `{"a":[],"b":{"c":1}}`
	got := amend.Run(widest, []api.Op{load(`{"a":[{}]}`), p, invert, dump, invert, invert, dump})
	if got[3] != told(want) || got[6] != told(want) || got[2].Code != api.OK || got[4] != got[2] || got[5] != got[2] {
		t.Errorf("got %+v", got)
	}
}

// What was taken out by a move and then changed comes back as it was.
func TestP6OldValuesAreKeptAsTheyWere(t *testing.T) {
	patches(t, widest, `{"a":{"k":[1,2]},"b":0}`,
		"["+operation("move", "from", `"/a"`, "path", `"/b"`)+","+operation("remove", "path", `"/b/k/0"`)+","+operation("add", "path", `"/b/l"`, "value", "3")+"]",
		`{"b":{"k":[2],"l":3}}`)
	add := func(n string) api.Op { return patch(one("add", "path", `"/0"`, "value", n)) }
	script := []api.Op{load("[[1]]"), patch(one("move", "from", `"/0"`, "path", `""`)), invert, add("2"), add("3"), dump}
	got := amend.Run(widest, script)
	if got[5] != told("[3,2,1]") {
		t.Fatalf("got %+v", got)
	}
	expect(t, widest, []api.Op{load("[[1]]"), script[1], patch(got[2].Text), dump}, told(""), told(""), told(""), told("[[1]]"))
}

// The way back must not be deeper than Depth either.
func TestP6AtTheDepth(t *testing.T) {
	c := api.Config{Depth: 3, Exponent: 1}
	patches(t, c, "[[1]]", "["+operation("move", "from", `"/0"`, "path", `""`)+","+operation("add", "path", `"/-"`, "value", "[2]")+"]", "[1,[2]]")
	patches(t, c, "[[[]]]", "["+operation("move", "from", `"/0/0"`, "path", `"/0"`)+","+operation("move", "from", `"/1"`, "path", `"/0/0"`)+"]", "[[[]]]")
	patches(t, c, `{"a":{"b":1},"c":{}}`, "["+operation("move", "from", `"/a"`, "path", `"/d"`)+","+operation("move", "from", `"/d/b"`, "path", `"/c/b"`)+"]", `{"c":{"b":1},"d":{}}`)
	patches(t, c, nested(3), one("replace", "path", `""`, "value", "1e1"), "10")
	patches(t, c, "0.1", one("replace", "path", `""`, "value", nested(3)), nested(3))
}

func TestP6LongWay(t *testing.T) {
	long := strings.Repeat("a", 1000)
	script := []api.Op{load(`["` + long + `"]`), patch(copies(18)), dump, patch(one("remove", "path", `"/18"`)), patch(copies(1)), invert, patch(one("replace", "path", `""`, "value", "1")), invert, dump}
	got := amend.Run(widest, script)
	if got[5].Code != api.OK || got[7].Code != api.OK || got[8] != told("1") || len(got[7].Text) <= api.MaxText {
		t.Fatalf("codes %d, %d, a patch of %d bytes", got[5].Code, got[7].Code, len(got[7].Text))
	}
	// The way back from 18 copies is short; that from the replaced whole is
	// longer than a patch may be.
	back := amend.Run(widest, append(script[:2:2], invert))[2].Text
	expect(t, widest,
		[]api.Op{script[0], script[1], patch(back), dump, patch(got[7].Text)},
		told(""), told(""), told(""), told(`["`+long+`"]`), refused(api.ErrLong))
}

// Here amends holds what INVERT tells behind a MERGE against what was.
func TestP6BehindMerge(t *testing.T) {
	for _, x := range []struct{ document, p, want string }{
		{`{"a":1,"b":{"c":2}}`, `{"a":null,"b":{"d":3},"e":{"f":null}}`, `{"b":{"c":2,"d":3},"e":{}}`},
		{"1", "2", "2"}, {"[1]", `{"a":1}`, `{"a":1}`}, {`{"a":1}`, "null", "null"}, {`{"a":[1,{"b":null}]}`, "7", "7"},
		// It changes nothing.
		{"{}", "{}", "{}"}, {`{"a":null}`, "{}", `{"a":null}`}, {`{"a":1}`, `{"b":null}`, `{"a":1}`}, {`{"a":1.50}`, `{"a":15e-1}`, `{"a":1.5}`}, {"null", "null", "null"},
		// What is taken away comes back as it was.
		{`{"a":{"b":[1,{"c":null}],"d":1e9}}`, `{"a":null}`, "{}"}, {`{"a":{"b":null}}`, `{"a":{"b":null}}`, `{"a":{}}`}, {`{"a":null,"b":null}`, `{"a":null,"c":null}`, `{"b":null}`}, {`{"a":{"b":1,"c":2}}`, `{"a":{"b":null,"c":null}}`, `{"a":{}}`},
		{`{"a":[1,2],"b":{"c":1}}`, `{"a":{"b":1},"b":[1]}`, `{"a":{"b":1},"b":[1]}`}, {`{"a":{"b":{"c":1}}}`, `{"a":{"b":{"c":{"d":null}}}}`, `{"a":{"b":{"c":{}}}}`},
		{`{"":1,"~":{"/":2},"~1":3,"é\"\\\n":4}`, `{"":null,"~":{"/":null,"~0":0},"~1":{"":null},"é\"\\\n":[]}`, `{"~":{"~0":0},"~1":{},"é\"\\\n":[]}`},
	} {
		amends(t, widest, x.document, merge(x.p), x.want)
	}
	c := api.Config{Depth: 3, Exponent: 1}
	amends(t, c, `{"a":{"b":1},"c":[[]]}`, merge(`{"a":1,"c":{"d":{}}}`), `{"a":1,"c":{"d":{}}}`)
	amends(t, c, nested(3), merge("1e1"), "10")
	amends(t, c, "0.1", merge(`{"a":{"b":{}}}`), `{"a":{"b":{}}}`)
}

func TestP6TheLastOfPatchAndMerge(t *testing.T) {
	add, set := patch(one("add", "path", `"/a"`, "value", "1")), merge(`{"a":null,"b":2}`)
	for _, x := range []struct {
		script []api.Op
		want   string
	}{
		{[]api.Op{add}, "{}"}, {[]api.Op{add, set}, `{"a":1}`}, {[]api.Op{set}, "{}"}, {[]api.Op{set, add}, `{"b":2}`}, {[]api.Op{set, set}, `{"b":2}`}, {[]api.Op{set, add, set}, `{"a":1,"b":2}`},
		// One that changes nothing is the last one too.
		{[]api.Op{add, merge("{}")}, `{"a":1}`}, {[]api.Op{set, merge(`{"a":null}`)}, `{"b":2}`}, {[]api.Op{set, patch("[]")}, `{"b":2}`},
		// One that is refused is not, nor is another step.
		{[]api.Op{add, set, merge("{")}, `{"a":1}`}, {[]api.Op{add, set, merge(nested(21))}, `{"a":1}`}, {[]api.Op{add, set, patch(one("remove", "path", `"/a"`))}, `{"a":1}`}, {[]api.Op{set, load("x"), diff("1"), mergeDiff("1"), mergeDiff(`{"a":null}`), dump, get("/b"), test("/b", "2")}, "{}"},
	} {
		script := append([]api.Op{load("{}")}, x.script...)
		got := amend.Run(widest, append(script, invert))
		back := got[len(script)]
		if back.Code != api.OK {
			t.Errorf("%+v: %+v", x.script, back)
		}
		if is := lastDump(append(script, patch(back.Text))); is != x.want {
			t.Errorf("%+v: %s leads back to %s, want %s", x.script, back.Text, is, x.want)
		}
	}
	none := refused(api.ErrNone)
	expect(t, widest,
		[]api.Op{load("{}"), merge("{"), invert, merge(nested(21)), invert, diff("1"), mergeDiff("1"), invert, set, load("[]"), invert, merge("{}"), load("]"), diff("[]"), mergeDiff("[]")},
		told(""), refused(api.ErrText), none, refused(api.ErrDepth), none, told(`[{"op":"replace","path":"","value":1}]`), told("1"), none, told(""), told(""), none, told(""), refused(api.ErrText), told(`[{"op":"replace","path":"","value":[]}]`), told("[]"))
}

// The way back from a MERGE that made much less of the document is longer than
// a patch may be.
func TestP6LongWayBehindMerge(t *testing.T) {
	script := append(wholeOf(api.MaxWhole), dump, merge(`{"x":{"y":null}}`), dump, invert)
	got := amend.Run(widest, script)
	if got[4] != told(`{"x":{}}`) || got[5].Code != api.OK || len(got[5].Text) <= api.MaxWhole {
		t.Fatalf("%.60q, code %d, %d bytes", got[4].Text, got[5].Code, len(got[5].Text))
	}
	was := strings.TrimSuffix(strings.TrimPrefix(got[2].Text, `{"x":`), "}")
	if want := one("replace", "path", `"/x"`, "value", was); got[5].Text != want {
		t.Errorf("INVERT: %.100s…, want %.100s…", got[5].Text, want)
	}
	// A MERGE that is refused as too long leaves the way back to what it was.
	expect(t, widest,
		[]api.Op{load("1"), merge(`{"a":1}`), invert, merge(`{"b":"` + strings.Repeat("x", 1990) + `"}`), invert},
		told(""), told(""), told(`[{"op":"replace","path":"","value":1}]`), told(""), told(`[{"op":"remove","path":"/b"}]`))
	full := wholeOf(api.MaxWhole)
	ahead := amend.Run(widest, append(full, invert))[2]
	if got := amend.Run(widest, append(full, merge(`{"y":1}`), invert)); got[2] != refused(api.ErrLong) || got[3] != ahead {
		t.Errorf("behind a MERGE that is refused: %+v", got[2:])
	}
}

func TestP6UnnamedFields(t *testing.T) {
	got := amend.Run(widest, []api.Op{load("[]"), patch(one("add", "path", `"/0"`, "value", "1")), invert, {Kind: api.Invert, S: "[", T: "~"}})
	if got[2].Code != api.OK || got[3] != got[2] {
		t.Errorf("got %+v", got)
	}
}
