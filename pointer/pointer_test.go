package pointer_test

import (
	"math/rand"
	"slices"
	"strings"
	"testing"

	"amend/api"
	"amend/pointer"
	"amend/value"
)

// P4: what these tests hold of a pointer holds of every GET and TEST.

func TestRead(t *testing.T) {
	for s, want := range map[string][]string{
		"":           {},
		"/":          {""},
		"//":         {"", ""},
		"/a/":        {"a", ""},
		"/a/0/-":     {"a", "0", "-"},
		"/~0~1":      {"~/"},
		"/~01/~10":   {"~1", "/0"},
		"/~0~0/~1~1": {"~~", "//"},
		"/a~0b~1c":   {"a~b/c"},
		"/é/😀\ufffd": {"é", "😀\ufffd"},
		"/ / \x00\n": {" ", " \x00\n"},
	} {
		got, ok := pointer.Read(s)
		if !ok || !slices.Equal(got, want) {
			t.Errorf("%q: got %q, %v, want %q", s, got, ok, want)
		}
	}
	for _, s := range []string{"a", "a/b", "~0", " ", "/~", "/~2", "/~~0", "/a~/0", "/~/0", "\xff", "/a\xff", "/\xed\xa0\x80", "/\xc0\x80", "/\xc3/\xa9"} {
		if got, ok := pointer.Read(s); ok || got != nil {
			t.Errorf("%q is a pointer: %q", s, got)
		}
	}
}

func TestReadBackWhatIsTold(t *testing.T) {
	random := rand.New(rand.NewSource(1))
	letters := []string{"~", "/", "0", "1", "a", "é", ""}
	told := strings.NewReplacer("~", "~0", "/", "~1")
	for range 5000 {
		var want []string
		var s strings.Builder
		for range random.Intn(4) {
			token := ""
			for range random.Intn(5) {
				token += letters[random.Intn(len(letters))]
			}
			want = append(want, token)
			s.WriteString("/" + told.Replace(token))
		}
		got, ok := pointer.Read(s.String())
		if !ok || !slices.Equal(got, want) {
			t.Fatalf("%q: got %q, %v, want %q", s.String(), got, ok, want)
		}
		if again := got.String(); again != s.String() {
			t.Fatalf("%q: told again as %q", s.String(), again)
		}
	}
}

func TestIndex(t *testing.T) {
	for s, want := range map[string]int{"0": 0, "1": 1, "9": 9, "10": 10, "2000": 2000, "1002": 1002} {
		if got, ok := pointer.Index(s); !ok || got != want {
			t.Errorf("%q: got %d, %v", s, got, ok)
		}
	}
	for _, s := range []string{"9223372036854775807", "9223372036854775808", "18446744073709551616", "1" + strings.Repeat("0", 10000)} {
		if got, ok := pointer.Index(s); !ok || got < 1<<30 {
			t.Errorf("%.30q: got %d, %v", s, got, ok)
		}
	}
	for _, s := range []string{"", "-", "00", "01", "-1", "+1", " 1", "1 ", "1a1", "1_0", "0x1", "١", "1.0", "1e1", "\xff"} {
		if got, ok := pointer.Index(s); ok || got != 0 {
			t.Errorf("%q is an index: %d", s, got)
		}
	}
}

func TestFind(t *testing.T) {
	leaf := &value.Value{Kind: value.True}
	list := &value.Value{Kind: value.Array, Elements: []*value.Value{{Kind: value.Null}, leaf}}
	whole := &value.Value{Kind: value.Object, Members: map[string]*value.Value{"": list, "0": leaf}}
	for s, want := range map[string]*value.Value{"": whole, "/": list, "//1": leaf, "/0": leaf} {
		p, _ := pointer.Read(s)
		if got, code := p.Find(whole); got != want || code != api.OK {
			t.Errorf("%q: got %v, %d", s, got, code)
		}
	}
	for s, want := range map[string]api.Errno{"/1": api.ErrTarget, "//2": api.ErrTarget, "//-": api.ErrIndex, "//01": api.ErrIndex, "//1/0": api.ErrTarget} {
		p, _ := pointer.Read(s)
		if got, code := p.Find(whole); got != nil || code != want {
			t.Errorf("%q: got %v, %d, want %d", s, got, code, want)
		}
	}
}

// P6 and P8: the paths of what INVERT and DIFF tell are made so.
func TestTo(t *testing.T) {
	p := pointer.Pointer(nil).To("a/b").To("").To("~").To("0")
	if want := (pointer.Pointer{"a/b", "", "~", "0"}); !slices.Equal(p, want) || p.String() != "/a~1b//~0/0" {
		t.Errorf("got %q, %s", p, p.String())
	}
	room := append(make(pointer.Pointer, 0, 8), "a")
	first := room.To("b")
	second := room.To("c")
	if !slices.Equal(first, []string{"a", "b"}) || !slices.Equal(second, []string{"a", "c"}) || !slices.Equal(room[:2], []string{"a", ""}) {
		t.Errorf("pointers that go on from one share room: %q, %q, %q", first, second, room[:2])
	}
}
