package amend_test

import (
	"slices"
	"strings"
	"sync"
	"testing"
	"unsafe"

	"amend/amend"
	"amend/api"
)

// variety is a script with a bit of everything.
func variety() []api.Op {
	return []api.Op{
		dump, load(`{"b":[1,2.50,{"c":"\u0041"}],"a":null,"d":{},"e":[],"f":1e9,"g":-0}`), dump, load("[1"), dump,
		{Kind: 77, S: "1", T: "2"}, load(`{"a":1,"a":2}`), load(nested(21)), dump, get("/b"), get("/b/2/c"), get("/b/x"), get("/~"), get("/e/0"),
		test("/b", `[1,2.5,{"c":"A"}]`), test("", "1"), test("/d", "{"), test("d", "{}"), load("1e401"), invert,
		patch(`[{"op":"add","path":"/e/-","value":{"z":1,"y":2,"x":[3]}},{"op":"move","from":"/b","path":"/d/b"},{"op":"copy","from":"/e","path":"/h"},{"op":"remove","path":"/a"}]`), dump, invert,
		patch(`[{"op":"replace","path":"/h","value":0},{"op":"test","path":"/h","value":1}]`), patch(`[{"op":"add"}]`), patch("[{}"), dump, invert, patch("[]"), invert,
		diff(`{"e":[{"x":[3],"z":1}],"d":{"b":[2.5,1,{"c":"B"}]},"h":[],"i":0}`), diff("[1"), mergeDiff(`{"e":0,"h":{"a":1,"b":{}},"i":{"k":[null]},"j":2}`), mergeDiff(`{"e":0,"h":{"a":1,"b":null},"i":null}`), mergeDiff("[null]"), dump, invert,
		merge(`{"d":{"b":null,"x":[null],"y":{"z":null}},"e":{"a":1,"b":2,"c":null},"f":null,"q":null,"r":{"s":{}}}`), dump, invert, diff("{}"), mergeDiff("{}"), merge(`{"a":1,"a":2}`), merge("1e401"), invert, merge("{}"), invert,
		load(`"x"`), get(""), diff(`"y"`), mergeDiff(`{"a":null}`), merge(`{"a":null,"b":1}`), dump, invert, dump,
	}
}

func TestP2SameAgain(t *testing.T) {
	first := amend.Run(widest, variety())
	for range 50 {
		if again := amend.Run(widest, variety()); !slices.Equal(first, again) {
			t.Fatalf("got %+v, then %+v", first, again)
		}
	}
}

func TestP2StepsAheadAlone(t *testing.T) {
	script := variety()
	whole := amend.Run(widest, script)
	for n := range len(script) + 1 {
		if got := amend.Run(widest, script[:n]); !slices.Equal(got, whole[:n]) {
			t.Errorf("the first %d steps alone: %+v, with the others behind them: %+v", n, got, whole[:n])
		}
	}
}

func TestP2NothingKeptBetweenRuns(t *testing.T) {
	amend.Run(widest, []api.Op{load("1")})
	expect(t, widest, []api.Op{dump}, refused(api.ErrNone))
}

func TestP2UnnamedFields(t *testing.T) {
	expect(t, widest,
		[]api.Op{{Kind: api.Load, S: "1", T: "\xff"}, {Kind: api.Dump, S: strings.Repeat("x", 9000), T: "["}, {Kind: api.Patch, S: "[]", T: "["}, {Kind: api.Invert, S: "[", T: "\xff"}},
		told(""), told("1"), told(""), told("[]"))
}

func TestP2NothingWrittenInto(t *testing.T) {
	room := make([]api.Op, 0, len(variety())+20)
	for i := range cap(room) {
		room = append(room, api.Op{Kind: 1000 + i, S: "spare", T: "room"})
	}
	copy(room, variety())
	before := slices.Clone(room)
	amend.Run(widest, room[:len(variety())])
	if !slices.Equal(room, before) {
		t.Errorf("the script was written into: %+v", room)
	}
}

func TestP2NewMemory(t *testing.T) {
	script := []api.Op{load(`"abcdefgh"`), dump}
	first := amend.Run(widest, script)
	second := amend.Run(widest, script)
	first[0], first[1] = refused(api.ErrNever), refused(api.ErrNever)
	if second[0] != told("") || second[1] != told(`"abcdefgh"`) {
		t.Errorf("two runs share their answers: %+v", second)
	}
	for _, s := range []string{`"abcdefgh"`, "12345678", "true", "null"} {
		for _, ask := range []api.Op{dump, get(""), mergeDiff(s)} {
			got := amend.Run(widest, []api.Op{load(s), ask})[1].Text
			if got != s {
				t.Fatalf("got %q, want %q", got, s)
			}
			if unsafe.StringData(got) == unsafe.StringData(s) {
				t.Errorf("%q: the answer is the argument itself", s)
			}
		}
	}
}

func TestP2RunsSideBySide(t *testing.T) {
	want := amend.Run(widest, variety())
	var all sync.WaitGroup
	for range 16 {
		all.Add(1)
		go func() {
			defer all.Done()
			if got := amend.Run(widest, variety()); !slices.Equal(got, want) {
				t.Errorf("got %+v, want %+v", got, want)
			}
		}()
	}
	all.Wait()
}
