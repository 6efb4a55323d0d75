package document_test

import (
	"strings"
	"testing"

	"amend/api"
	"amend/document"
	"amend/patch"
	"amend/text"
	"amend/value"
)

// P5, P6 and P7: what these tests hold of a document holds of every PATCH and
// MERGE.

func valueOf(t *testing.T, s string) *value.Value {
	t.Helper()
	v, code := text.Read(s, 20, 400)
	if code != api.OK {
		t.Fatalf("%q: code %d", s, code)
	}
	return v
}

func patchOf(t *testing.T, s string) []patch.Operation {
	t.Helper()
	p, _, ok := patch.Read(valueOf(t, s))
	if !ok {
		t.Fatalf("%q is no patch", s)
	}
	return p
}

// does does a patch, and tells what the document is behind it.
func does(t *testing.T, d *document.Document, p, want string) {
	t.Helper()
	if at, code := d.Patch(patchOf(t, p), 20); at != 0 || code != api.OK {
		t.Fatalf("%s: code %d at %d", p, code, at)
	}
	if got := text.Canonical(d.Whole()); got != want {
		t.Fatalf("%s: got %s, want %s", p, got, want)
	}
}

func TestPatchSharesNothing(t *testing.T) {
	v := valueOf(t, "[1]")
	d := document.New(valueOf(t, `{"a":0}`))
	for _, kind := range []patch.Kind{patch.Add, patch.Replace} {
		for _, path := range [][]string{{"a"}, nil} {
			o := patch.Operation{Kind: kind, Path: path, Value: v}
			if _, code := d.Patch([]patch.Operation{o}, 20); code != api.OK {
				t.Fatalf("%+v: code %d", o, code)
			}
			if path != nil {
				does(t, d, `[{"op":"add","path":"/a/0","value":2}]`, `{"a":[2,1]}`)
				continue
			}
			does(t, d, `[{"op":"add","path":"/0","value":2}]`, "[2,1]")
			d = document.New(valueOf(t, `{"a":0}`))
		}
	}
	if got := text.Canonical(v); got != "[1]" {
		t.Errorf("the value of an operation became %s", got)
	}
}

func TestInverse(t *testing.T) {
	d := document.New(valueOf(t, `{"a":[1,{"k":2}],"b":3}`))
	if p, ok := d.Inverse(); ok || p != nil {
		t.Errorf("ahead of any patch: %+v, %v", p, ok)
	}
	does(t, d, `[{"op":"add","path":"/a/-","value":[]},{"op":"move","from":"/a/1","path":"/b"},{"op":"replace","path":"/b/k","value":4},{"op":"test","path":"/b/k","value":4},{"op":"copy","from":"/b/k","path":"/c"}]`, `{"a":[1,[]],"b":{"k":4},"c":4}`)
	const back = `[{"op":"remove","path":"/c"},{"op":"replace","path":"/b/k","value":2},{"op":"replace","path":"/b","value":3},{"op":"add","path":"/a/1","value":{"k":2}},{"op":"remove","path":"/a/2"}]`
	holds := func() {
		t.Helper()
		if p, ok := d.Inverse(); !ok || patch.Text(p) != back {
			t.Errorf("got %s, %v, want %s", patch.Text(p), ok, back)
		}
	}
	holds()
	if at, code := d.Patch(patchOf(t, `[{"op":"replace","path":"/b/k","value":5},{"op":"remove","path":""}]`), 20); at != 1 || code != api.ErrTarget {
		t.Fatalf("code %d at %d", code, at)
	}
	holds()
	does(t, d, back, `{"a":[1,{"k":2}],"b":3}`)
	does(t, d, "[]", `{"a":[1,{"k":2}],"b":3}`)
	if p, ok := d.Inverse(); !ok || len(p) != 0 {
		t.Errorf("behind a patch that does nothing: %+v, %v", p, ok)
	}
}

func TestPatchTakenBack(t *testing.T) {
	const whole = `{"a":[1,{"k":[2]}],"b":3}`
	operations := patchOf(t, `[
		{"op":"add","path":"/a/0","value":0},{"op":"add","path":"/a/-","value":9},{"op":"add","path":"/c","value":{}},{"op":"add","path":"/b","value":[]},{"op":"remove","path":"/a/1"},{"op":"replace","path":"/a/1/k","value":7},
		{"op":"move","from":"/a/1","path":"/c/x"},{"op":"copy","from":"/c","path":"/b/0"},{"op":"remove","path":"/c/x/k"},{"op":"move","from":"/b","path":""},{"op":"remove","path":"/0/x"},{"op":"add","path":"","value":[5]},{"op":"replace","path":"/0","value":6}]`)
	wrong := patchOf(t, `[{"op":"test","path":"","value":"nothing"}]`)
	for n := range len(operations) + 1 {
		d := document.New(valueOf(t, whole))
		at, code := d.Patch(append(operations[:n:n], wrong...), 20)
		if at != n || code != api.ErrTest {
			t.Errorf("%d operations and one that fails: code %d at %d", n, code, at)
		}
		if got := text.Canonical(d.Whole()); got != whole {
			t.Errorf("%d operations taken back: got %s", n, got)
		}
	}
}

// merges merges, and tells what the document is behind it, and what leads back.
func merges(t *testing.T, d *document.Document, p, want, back string) {
	t.Helper()
	if code := d.Merge(valueOf(t, p)); code != api.OK {
		t.Fatalf("%s: code %d", p, code)
	}
	if got := text.Canonical(d.Whole()); got != want {
		t.Fatalf("%s: got %s, want %s", p, got, want)
	}
	if inverse, ok := d.Inverse(); !ok || patch.Text(inverse) != back {
		t.Errorf("%s: %s leads back, want %s", p, patch.Text(inverse), back)
	}
}

func TestMerge(t *testing.T) {
	d := document.New(valueOf(t, `{"a":1,"b":{"c":2,"~":[3]}}`))
	merges(t, d, `{"a":null,"b":{"~":4,"d":{"e":null}},"f":[null],"g":null}`, `{"b":{"c":2,"d":{},"~":4},"f":[null]}`,
		`[{"op":"remove","path":"/f"},{"op":"replace","path":"/b/~0","value":[3]},{"op":"remove","path":"/b/d"},{"op":"add","path":"/a","value":1}]`)
	merges(t, d, `{"x":null,"b":{}}`, `{"b":{"c":2,"d":{},"~":4},"f":[null]}`, "[]")
	merges(t, d, `{"b":[{"c":null}],"f":{"g":{"h":null}}}`, `{"b":[{"c":null}],"f":{"g":{}}}`,
		`[{"op":"replace","path":"/f","value":[null]},{"op":"replace","path":"/b","value":{"c":2,"d":{},"~":4}}]`)
	merges(t, d, "null", "null", `[{"op":"replace","path":"","value":{"b":[{"c":null}],"f":{"g":{}}}}]`)
	merges(t, d, `{"a":null}`, "{}", `[{"op":"replace","path":"","value":null}]`)
}

func TestMergeSharesNothing(t *testing.T) {
	const told = `{"a":{"b":[1]},"c":[{"d":2}],"e":{"f":{"g":[]}}}`
	p := valueOf(t, told)
	for _, whole := range []string{"{}", "0", `{"a":{},"c":[],"e":{"f":0}}`} {
		d := document.New(valueOf(t, whole))
		if code := d.Merge(p); code != api.OK {
			t.Fatalf("%s: code %d", whole, code)
		}
		does(t, d, `[{"op":"add","path":"/a/x","value":0},{"op":"add","path":"/a/b/-","value":9},{"op":"remove","path":"/c/0/d"},{"op":"replace","path":"/e/f/g","value":{}},{"op":"add","path":"/e/f/g/h","value":1}]`,
			`{"a":{"b":[1,9],"x":0},"c":[{}],"e":{"f":{"g":{"h":1}}}}`)
		if got := text.Canonical(p); got != told {
			t.Errorf("%s: the merge patch became %s", whole, got)
		}
	}
}

func TestMergeTakenBack(t *testing.T) {
	const whole = `{"a":[1],"b":{"c":2},"d":null}`
	long := strings.Repeat("x", api.MaxWhole)
	d := document.New(valueOf(t, whole))
	does(t, d, `[{"op":"remove","path":"/d"},{"op":"add","path":"/d","value":null}]`, whole)
	p := &value.Value{Kind: value.Object, Members: map[string]*value.Value{
		"a": valueOf(t, "null"), "b": valueOf(t, `{"c":{"e":1},"f":[]}`), "d": {Kind: value.String, Text: long}, "g": valueOf(t, "0"),
	}}
	if code := d.Merge(p); code != api.ErrLong {
		t.Fatalf("code %d", code)
	}
	if got := text.Canonical(d.Whole()); got != whole {
		t.Errorf("it became %.100s", got)
	}
	if inverse, ok := d.Inverse(); !ok || len(inverse) != 2 {
		t.Errorf("%+v leads back", inverse)
	}
	// What was taken back is in no journal any more.
	merges(t, d, `{"b":{"c":3}}`, `{"a":[1],"b":{"c":3},"d":null}`, `[{"op":"replace","path":"/b/c","value":2}]`)
}
