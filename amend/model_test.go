package amend_test

import (
	"encoding/json"
	"maps"
	"math/rand"
	"reflect"
	"slices"
	"strconv"
	"strings"
	"testing"

	"amend/amend"
	"amend/api"
)

// The model does patches another way than the program: on values of
// encoding/json, each operation on a copy of the whole.

func parse(t *testing.T, s string) any {
	t.Helper()
	var v any
	if err := json.Unmarshal([]byte(s), &v); err != nil {
		t.Fatalf("%.100q: %v", s, err)
	}
	return v
}

func written(v any) string {
	b, err := json.Marshal(v)
	if err != nil {
		panic(err)
	}
	return string(b)
}

func copied(v any) any {
	var c any
	if err := json.Unmarshal([]byte(written(v)), &c); err != nil {
		panic(err)
	}
	return c
}

func depthOf(v any) int {
	deepest := 0
	switch v := v.(type) {
	case []any:
		for _, e := range v {
			deepest = max(deepest, depthOf(e))
		}
	case map[string]any:
		for _, e := range v {
			deepest = max(deepest, depthOf(e))
		}
	}
	return deepest + 1
}

func tokensOf(path string) []string {
	tokens := strings.Split(path, "/")[1:]
	for i := range tokens {
		tokens[i] = strings.NewReplacer("~1", "/", "~0", "~").Replace(tokens[i])
	}
	return tokens
}

func indexOf(token string) (int, bool) {
	n, err := strconv.Atoi(token)
	return n, err == nil && strconv.Itoa(n) == token && n >= 0
}

func find(v any, tokens []string) (any, api.Errno) {
	for _, token := range tokens {
		switch x := v.(type) {
		case map[string]any:
			member, there := x[token]
			if !there {
				return nil, api.ErrTarget
			}
			v = member
		case []any:
			i, ok := indexOf(token)
			if !ok {
				return nil, api.ErrIndex
			}
			if i >= len(x) {
				return nil, api.ErrTarget
			}
			v = x[i]
		default:
			return nil, api.ErrTarget
		}
	}
	return v, api.OK
}

// rebuilt is v with what stands at the tokens' parent changed by f.
func rebuilt(v any, tokens []string, f func(parent any, token string) (any, api.Errno)) (any, api.Errno) {
	if len(tokens) == 1 {
		return f(v, tokens[0])
	}
	child, code := find(v, tokens[:1])
	if code != api.OK {
		return nil, code
	}
	child, code = rebuilt(child, tokens[1:], f)
	if code != api.OK {
		return nil, code
	}
	switch x := v.(type) {
	case map[string]any:
		x[tokens[0]] = child
	case []any:
		i, _ := indexOf(tokens[0])
		x[i] = child
	}
	return v, api.OK
}

func modelAdd(v any, tokens []string, what any) (any, api.Errno) {
	if len(tokens) == 0 {
		return copied(what), api.OK
	}
	what = copied(what)
	return rebuilt(v, tokens, func(parent any, token string) (any, api.Errno) {
		switch x := parent.(type) {
		case map[string]any:
			x[token] = what
			return x, api.OK
		case []any:
			i, ok := indexOf(token)
			if token == "-" {
				i, ok = len(x), true
			}
			if !ok {
				return nil, api.ErrIndex
			}
			if i > len(x) {
				return nil, api.ErrTarget
			}
			longer := append([]any{}, x[:i]...)
			return append(append(longer, what), x[i:]...), api.OK
		}
		return nil, api.ErrTarget
	})
}

func modelRemove(v any, tokens []string) (any, api.Errno) {
	if len(tokens) == 0 {
		return nil, api.ErrTarget
	}
	if _, code := find(v, tokens); code != api.OK {
		return nil, code
	}
	return rebuilt(v, tokens, func(parent any, token string) (any, api.Errno) {
		if x, ok := parent.(map[string]any); ok {
			delete(x, token)
			return x, api.OK
		}
		i, _ := indexOf(token)
		x := parent.([]any)
		return append(append([]any{}, x[:i]...), x[i+1:]...), api.OK
	})
}

func modelReplace(v any, tokens []string, what any) (any, api.Errno) {
	if _, code := find(v, tokens); code != api.OK {
		return nil, code
	}
	if len(tokens) == 0 {
		return what, api.OK
	}
	return rebuilt(v, tokens, func(parent any, token string) (any, api.Errno) {
		if x, ok := parent.(map[string]any); ok {
			x[token] = what
			return x, api.OK
		}
		i, _ := indexOf(token)
		parent.([]any)[i] = what
		return parent, api.OK
	})
}

func modelOperation(v any, o map[string]any) (any, api.Errno) {
	v = copied(v)
	path := tokensOf(o["path"].(string))
	var from []string
	if f, there := o["from"]; there {
		from = tokensOf(f.(string))
	}
	what, code := find(v, from)
	switch o["op"] {
	case "add":
		return modelAdd(v, path, o["value"])
	case "remove":
		return modelRemove(v, path)
	case "replace":
		return modelReplace(v, path, o["value"])
	case "copy":
		if code != api.OK {
			return nil, code
		}
		return modelAdd(v, path, what)
	case "move":
		if code != api.OK {
			return nil, code
		}
		if len(path) > len(from) && strings.Join(path[:len(from)], "\n") == strings.Join(from, "\n") {
			return nil, api.ErrMove
		}
		if o["path"] == o["from"] {
			return v, api.OK
		}
		what = copied(what)
		if v, code = modelRemove(v, from); code != api.OK {
			return nil, code
		}
		return modelAdd(v, path, what)
	}
	there, code := find(v, path)
	if code != api.OK {
		return nil, code
	}
	if !reflect.DeepEqual(there, o["value"]) {
		return nil, api.ErrTest
	}
	return v, api.OK
}

// modelPatch tells what becomes of v, or the error and where it is.
func modelPatch(v any, patch []any, depth int) (any, api.Answer) {
	if depthOf(patch) > depth+2 {
		return nil, refused(api.ErrDepth)
	}
	for i, o := range patch {
		after, code := modelOperation(v, o.(map[string]any))
		if code != api.OK {
			return nil, refusedAt(code, i)
		}
		if depthOf(after) > depth {
			return nil, refusedAt(api.ErrDepth, i)
		}
		v = after
	}
	return v, told("")
}

// maker makes values, pointers and patches by chance.
type maker struct{ *rand.Rand }

var chanceKeys = []string{"a", "b", "", "~", "/", "~1", "0", "1", "-", "é"}

func (m maker) value(depth int) any {
	if depth > 1 && m.Intn(3) > 0 {
		n := m.Intn(4)
		if m.Intn(2) == 0 {
			list := []any{}
			for range n {
				list = append(list, m.value(depth-1))
			}
			return list
		}
		object := map[string]any{}
		for range n {
			object[chanceKeys[m.Intn(len(chanceKeys))]] = m.value(depth - 1)
		}
		return object
	}
	return []any{nil, true, false, 1.0, 2.0, 3.0, "x", "", []any{}, map[string]any{}}[m.Intn(10)]
}

// pointer goes a way through v, that may end where nothing is.
func (m maker) pointer(v any) string {
	path := ""
	for m.Intn(4) > 0 {
		token := ""
		switch x := v.(type) {
		case []any:
			i := m.Intn(len(x) + 1)
			token, v = strconv.Itoa(i), nil
			if i < len(x) {
				v = x[i]
			}
			switch m.Intn(30) {
			case 0:
				token = "-"
			case 1:
				token = []string{"01", "x", "", "+1", strconv.Itoa(len(x) + 1)}[m.Intn(5)]
			}
		case map[string]any:
			token = chanceKeys[m.Intn(len(chanceKeys))]
			for _, key := range slices.Sorted(maps.Keys(x)) {
				if m.Intn(2) == 0 {
					token = key
				}
			}
			v = x[token]
		default:
			if m.Intn(20) > 0 {
				return path
			}
			token = "0"
		}
		path += "/" + strings.NewReplacer("~", "~0", "/", "~1").Replace(token)
	}
	return path
}

func (m maker) operation(v any, depth int) map[string]any {
	o := map[string]any{"op": []string{"add", "remove", "replace", "move", "copy", "test", "add", "move"}[m.Intn(8)], "path": m.pointer(v)}
	switch o["op"] {
	case "move", "copy":
		o["from"] = m.pointer(v)
	case "add", "replace":
		o["value"] = m.value(m.Intn(depth) + 1)
	case "test":
		o["value"], _ = find(v, tokensOf(o["path"].(string)))
		if m.Intn(10) == 0 {
			o["value"] = m.value(2)
		}
	}
	return o
}

// patch is made along a way on which most of its operations can be done.
func (m maker) patch(v any, depth int) []any {
	patch := []any{}
	for range m.Intn(8) {
		o := m.operation(v, depth)
		after, code := modelOperation(v, o)
		if code != api.OK && m.Intn(8) > 0 || code == api.OK && depthOf(after) > depth && m.Intn(8) > 0 {
			continue
		}
		patch = append(patch, o)
		if code == api.OK {
			v = after
		}
	}
	return patch
}

func TestP5P6ByChance(t *testing.T) {
	m := maker{rand.New(rand.NewSource(3))}
	seen := map[api.Errno]int{}
	for range 20000 {
		depth := 2 + m.Intn(5)
		document := m.value(depth)
		p := m.patch(document, depth)
		s, c := written(p), api.Config{Depth: depth, Exponent: 5}
		if len(s) > api.MaxText {
			continue
		}
		want, answer := modelPatch(document, p, depth)
		if answer.Code != api.OK {
			want = document
		}
		got := amend.Run(c, []api.Op{load(written(document)), dump, patch(s), dump, invert})
		seen[got[2].Code]++
		if got[2] != answer || !reflect.DeepEqual(parse(t, got[3].Text), want) {
			t.Fatalf("%s, PATCH %s: %+v and %s, want %+v and %s", written(document), s, got[2], got[3].Text, answer, written(want))
		}
		if answer.Code != api.OK {
			if got[3] != got[1] || got[4] != refused(api.ErrNone) {
				t.Fatalf("%s, PATCH %s: %+v", written(document), s, got)
			}
			continue
		}
		back := got[4].Text
		if len(back) > api.MaxText {
			continue
		}
		again := amend.Run(c, []api.Op{load(written(document)), patch(s), patch(back), dump, invert})
		if again[2] != told("") || again[3] != got[1] {
			t.Fatalf("%s, PATCH %s, PATCH %s: %+v and %s", written(document), s, back, again[2], again[3].Text)
		}
		forth := amend.Run(c, []api.Op{load(written(document)), patch(s), patch(back), patch(again[4].Text), dump})
		if len(again[4].Text) <= api.MaxText && (forth[3] != told("") || forth[4] != got[3]) {
			t.Fatalf("%s, PATCH %s, there and back, PATCH %s: %+v and %s", written(document), s, again[4].Text, forth[3], forth[4].Text)
		}
	}
	for _, code := range []api.Errno{api.OK, api.ErrTarget, api.ErrIndex, api.ErrMove, api.ErrTest, api.ErrDepth} {
		if seen[code] < 20 {
			t.Errorf("code %d came %d times: too few to tell", code, seen[code])
		}
	}
}
