package diff_test

import (
	"strings"
	"testing"

	"amend/api"
	"amend/diff"
	"amend/patch"
	"amend/text"
	"amend/value"
)

// P7 and P8: what these tests hold of two values holds of every MERGEDIFF and
// DIFF.

func valueOf(t *testing.T, s string) *value.Value {
	t.Helper()
	v, code := text.Read(s, 20, 400)
	if code != api.OK {
		t.Fatalf("%q: code %d", s, code)
	}
	return v
}

func TestPatch(t *testing.T) {
	for _, x := range []struct {
		from, to string
		cells    int
		want     string
	}{
		{"1", "1.0", 100, "[]"}, {"[1]", "[1]", 0, "[]"}, {"1", "null", 100, `[{"op":"replace","path":"","value":null}]`},
		// By the order of the keys, and each way is gone to its end first.
		{`{"d":1,"b":{"y":1,"x":2},"a":0}`, `{"c":[],"b":{"x":3,"z":0},"d":1}`, 100, `[
			{"op":"remove","path":"/a"},{"op":"replace","path":"/b/x","value":3},{"op":"remove","path":"/b/y"},{"op":"add","path":"/b/z","value":0},{"op":"add","path":"/c","value":[]}]`},
		{`{"":{"~/":1}}`, `{"":{"~/":2},"/~":3}`, 100, `[{"op":"replace","path":"//~0~1","value":2},{"op":"add","path":"/~1~0","value":3}]`},
		// What is to go goes first, and then comes what is to come.
		{"[1,2,3,4]", "[2,4,5]", 100, `[{"op":"remove","path":"/0"},{"op":"remove","path":"/1"},{"op":"add","path":"/2","value":5}]`},
		{"[1,2,3]", "[4,2,5,6]", 100, `[{"op":"remove","path":"/0"},{"op":"remove","path":"/1"},{"op":"add","path":"/0","value":4},{"op":"add","path":"/2","value":5},{"op":"add","path":"/3","value":6}]`},
		{`{"a":[[],[0]]}`, `{"a":[[0],{}]}`, 100, `[{"op":"remove","path":"/a/0"},{"op":"add","path":"/a/1","value":{}}]`},
		{`{"a":[1]}`, `{"a":[]}`, 1, `[{"op":"replace","path":"/a","value":[]}]`}, {`{"a":[1]}`, `{"a":[]}`, 2, `[{"op":"remove","path":"/a/0"}]`},
	} {
		got := patch.Text(diff.Patch(valueOf(t, x.from), valueOf(t, x.to), x.cells))
		if want := text.Canonical(valueOf(t, x.want)); got != want {
			t.Errorf("from %s to %s, %d cells: got %s, want %s", x.from, x.to, x.cells, got, want)
		}
	}
}

// The pointers of what is made must not share room that grows.
func TestPatchOfDeepPlaces(t *testing.T) {
	const deep = 9
	members := func(a, b string) *value.Value {
		s := `{"x":` + a + `,"y":` + b + `}`
		return valueOf(t, strings.Repeat(`{"k":`, deep)+s+strings.Repeat("}", deep))
	}
	ahead := strings.Repeat("/k", deep)
	got := patch.Text(diff.Patch(members("[1,2]", "3"), members("[4]", "5"), 100))
	want := `[{"op":"remove","path":"` + ahead + `/x/0"},{"op":"remove","path":"` + ahead + `/x/0"},{"op":"add","path":"` + ahead + `/x/0","value":4},{"op":"replace","path":"` + ahead + `/y","value":5}]`
	if got != want {
		t.Errorf("got %s, want %s", got, want)
	}
}

func TestMergePatch(t *testing.T) {
	for _, x := range []struct{ from, to, want string }{
		{"1", "1.0", "1"}, {"{}", "null", "null"}, {"null", "{}", "{}"}, {`{"a":null}`, `{"a":null}`, "{}"}, {`{"a":null}`, `[{"a":null}]`, `[{"a":null}]`},
		{`{"a":1,"b":{"c":2,"d":null}}`, `{"b":{"d":null,"e":[null]},"f":{}}`, `{"a":null,"b":{"c":null,"e":[null]},"f":{}}`},
		{`{"a":[1],"b":{"c":1},"d":{"e":1}}`, `{"a":{"x":1},"b":[1],"d":{}}`, `{"a":{"x":1},"b":[1],"d":{"e":null}}`},
	} {
		p, ok := diff.MergePatch(valueOf(t, x.from), valueOf(t, x.to))
		if !ok || text.Canonical(p) != x.want {
			t.Errorf("from %s to %s: got %v, %v, want %s", x.from, x.to, p, ok, x.want)
		}
	}
	for from, to := range map[string]string{
		"1": `{"a":null}`, `{"a":1}`: `{"a":null}`, `{"a":null}`: `{"b":null}`, `{"a":{"b":1},"c":2}`: `{"a":{"b":null},"c":3}`, "{}": `{"a":{"b":{"c":null}}}`,
	} {
		if p, ok := diff.MergePatch(valueOf(t, from), valueOf(t, to)); ok || p != nil {
			t.Errorf("from %s to %s: got %v, %v", from, to, p, ok)
		}
	}
}

func TestArgumentsStay(t *testing.T) {
	const from, to = `{"a":[1,2,{"b":null}],"c":{"d":1}}`, `{"a":[2,{"b":null},3],"c":{"e":{}},"f":1}`
	a, b := valueOf(t, from), valueOf(t, to)
	for _, cells := range []int{0, 100} {
		diff.Patch(a, b, cells)
	}
	diff.MergePatch(a, b)
	if text.Canonical(a) != from || text.Canonical(b) != to {
		t.Errorf("they became %s and %s", text.Canonical(a), text.Canonical(b))
	}
}
