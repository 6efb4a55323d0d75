package patch_test

import (
	"slices"
	"testing"

	"amend/api"
	"amend/patch"
	"amend/text"
	"amend/value"
)

// P5: what these tests hold of reading a patch holds of every PATCH; P6: what
// they hold of its text holds of what INVERT tells.

func valueOf(t *testing.T, s string) *value.Value {
	t.Helper()
	v, code := text.Read(s, 20, 400)
	if code != api.OK {
		t.Fatalf("%q: code %d", s, code)
	}
	return v
}

func TestRead(t *testing.T) {
	p, at, ok := patch.Read(valueOf(t, `[
		{"op":"add","path":"","value":1},{"op":"remove","path":"/a~1b"},{"op":"replace","path":"/0/-","value":null},
		{"op":"move","path":"/a","from":"/~0"},{"op":"copy","path":"","from":"//"},{"op":"test","path":"/","value":[]}]`))
	if !ok || at != 0 || len(p) != 6 {
		t.Fatalf("got %+v, %d, %v", p, at, ok)
	}
	for i, want := range []struct {
		kind       patch.Kind
		path, from []string
		v          string
	}{
		{patch.Add, nil, nil, "1"}, {patch.Remove, []string{"a/b"}, nil, ""}, {patch.Replace, []string{"0", "-"}, nil, "null"},
		{patch.Move, []string{"a"}, []string{"~"}, ""}, {patch.Copy, nil, []string{"", ""}, ""}, {patch.Test, []string{""}, nil, "[]"},
	} {
		if p[i].Kind != want.kind || !slices.Equal(p[i].Path, want.path) || !slices.Equal(p[i].From, want.from) || want.v != "" && text.Canonical(p[i].Value) != want.v {
			t.Errorf("operation %d: got %+v", i, p[i])
		}
	}
}

func TestReadNoPatch(t *testing.T) {
	for s, want := range map[string]int{
		"null": 0, "{}": 0, `{"op":"remove","path":""}`: 0, "[1]": 0, `[{"op":"remove","path":""},[]]`: 1, `[{"op":"remove","path":"/a"},{"op":"remove","path":""},{"op":"remove"},{}]`: 2,
		`[{"op":"add","path":"","from":""}]`: 0, `[{"op":"move","path":"","value":""}]`: 0, `[{"op":"move","path":"","from":"a"}]`: 0, `[{"op":"","path":"","value":1,"from":""}]`: 0,
	} {
		if p, at, ok := patch.Read(valueOf(t, s)); ok || at != want || p != nil {
			t.Errorf("%s: got %+v, %d, %v, want the number %d", s, p, at, ok, want)
		}
	}
}

func TestText(t *testing.T) {
	for s, want := range map[string]string{
		"[]": "[]",
		`[{"value":{"b":1.50,"a":0},"path":"/a~1b/~01//0","op":"add"}]`: `[{"op":"add","path":"/a~1b/~01//0","value":{"a":0,"b":15e-1}}]`,
		// What an operation does not need is not told.
		`[{"op":"remove","path":"","value":1,"from":"","x":2},{"op":"test","path":"/\u00e9\"","value":null,"from":"/a"}]`: `[{"op":"remove","path":""},{"op":"test","path":"/é\"","value":null}]`,
		`[{"op":"move","path":"/a","from":"/b","value":1},{"op":"copy","path":"","from":"/~0~1"}]`:                        `[{"from":"/b","op":"move","path":"/a"},{"from":"/~0~1","op":"copy","path":""}]`,
		`[{"op":"replace","path":"/","value":[],"from":7}]`:                                                               `[{"op":"replace","path":"/","value":[]}]`,
	} {
		p, _, ok := patch.Read(valueOf(t, s))
		if got := patch.Text(p); !ok || got != want {
			t.Errorf("%s: got %s, %v, want %s", s, got, ok, want)
		}
	}
}
