package document_test

import (
	"testing"

	"amend/api"
	"amend/document"
	"amend/patch"
	"amend/text"
	"amend/value"
)

// P5 and P6: what these tests hold of a document holds of every PATCH.

func valueOf(t *testing.T, s string) *value.Value {
	t.Helper()
	v, code := text.Read(s, 20, 400)
	if code != api.OK {
		t.Fatalf("%q: code %d", s, code)
	}
	return v
}

func patchOf(t *testing.T, s string) []patch.Operation {
	t.Helper()
	p, _, ok := patch.Read(valueOf(t, s))
	if !ok {
		t.Fatalf("%q is no patch", s)
	}
	return p
}

// does does a patch, and tells what the document is behind it.
func does(t *testing.T, d *document.Document, p, want string) {
	t.Helper()
	if at, code := d.Patch(patchOf(t, p), 20); at != 0 || code != api.OK {
		t.Fatalf("%s: code %d at %d", p, code, at)
	}
	if got := text.Canonical(d.Whole()); got != want {
		t.Fatalf("%s: got %s, want %s", p, got, want)
	}
}

func TestPatchSharesNothing(t *testing.T) {
	v := valueOf(t, "[1]")
	d := document.New(valueOf(t, `{"a":0}`))
	for _, kind := range []patch.Kind{patch.Add, patch.Replace} {
		for _, path := range [][]string{{"a"}, nil} {
			o := patch.Operation{Kind: kind, Path: path, Value: v}
			if _, code := d.Patch([]patch.Operation{o}, 20); code != api.OK {
				t.Fatalf("%+v: code %d", o, code)
			}
			if path != nil {
				does(t, d, `[{"op":"add","path":"/a/0","value":2}]`, `{"a":[2,1]}`)
				continue
			}
			does(t, d, `[{"op":"add","path":"/0","value":2}]`, "[2,1]")
			d = document.New(valueOf(t, `{"a":0}`))
		}
	}
	if got := text.Canonical(v); got != "[1]" {
		t.Errorf("the value of an operation became %s", got)
	}
}

func TestInverse(t *testing.T) {
	d := document.New(valueOf(t, `{"a":[1,{"k":2}],"b":3}`))
	if p, ok := d.Inverse(); ok || p != nil {
		t.Errorf("ahead of any patch: %+v, %v", p, ok)
	}
	does(t, d, `[{"op":"add","path":"/a/-","value":[]},{"op":"move","from":"/a/1","path":"/b"},{"op":"replace","path":"/b/k","value":4},{"op":"test","path":"/b/k","value":4},{"op":"copy","from":"/b/k","path":"/c"}]`, `{"a":[1,[]],"b":{"k":4},"c":4}`)
	const back = `[{"op":"remove","path":"/c"},{"op":"replace","path":"/b/k","value":2},{"op":"replace","path":"/b","value":3},{"op":"add","path":"/a/1","value":{"k":2}},{"op":"remove","path":"/a/2"}]`
	holds := func() {
		t.Helper()
		if p, ok := d.Inverse(); !ok || patch.Text(p) != back {
			t.Errorf("got %s, %v, want %s", patch.Text(p), ok, back)
		}
	}
	holds()
	if at, code := d.Patch(patchOf(t, `[{"op":"replace","path":"/b/k","value":5},{"op":"remove","path":""}]`), 20); at != 1 || code != api.ErrTarget {
		t.Fatalf("code %d at %d", code, at)
	}
	holds()
	does(t, d, back, `{"a":[1,{"k":2}],"b":3}`)
	does(t, d, "[]", `{"a":[1,{"k":2}],"b":3}`)
	if p, ok := d.Inverse(); !ok || len(p) != 0 {
		t.Errorf("behind a patch that does nothing: %+v, %v", p, ok)
	}
}

func TestPatchTakenBack(t *testing.T) {
	const whole = `{"a":[1,{"k":[2]}],"b":3}`
	operations := patchOf(t, `[
		{"op":"add","path":"/a/0","value":0},{"op":"add","path":"/a/-","value":9},{"op":"add","path":"/c","value":{}},{"op":"add","path":"/b","value":[]},{"op":"remove","path":"/a/1"},{"op":"replace","path":"/a/1/k","value":7},
		{"op":"move","from":"/a/1","path":"/c/x"},{"op":"copy","from":"/c","path":"/b/0"},{"op":"remove","path":"/c/x/k"},{"op":"move","from":"/b","path":""},{"op":"remove","path":"/0/x"},{"op":"add","path":"","value":[5]},{"op":"replace","path":"/0","value":6}]`)
	wrong := patchOf(t, `[{"op":"test","path":"","value":"nothing"}]`)
	for n := range len(operations) + 1 {
		d := document.New(valueOf(t, whole))
		at, code := d.Patch(append(operations[:n:n], wrong...), 20)
		if at != n || code != api.ErrTest {
			t.Errorf("%d operations and one that fails: code %d at %d", n, code, at)
		}
		if got := text.Canonical(d.Whole()); got != whole {
			t.Errorf("%d operations taken back: got %s", n, got)
		}
	}
}
