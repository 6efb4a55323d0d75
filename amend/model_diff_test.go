package amend_test

import (
	"maps"
	"math/bits"
	"math/rand"
	"reflect"
	"slices"
	"testing"

	"amend/amend"
	"amend/api"
)

// modelMerge is v merged with p, word by word as the document tells it.
func modelMerge(v, p any) any {
	members, ok := p.(map[string]any)
	if !ok {
		return p
	}
	merged := map[string]any{}
	if object, ok := v.(map[string]any); ok {
		maps.Copy(merged, object)
	}
	for key, member := range members {
		if member == nil {
			delete(merged, key)
			continue
		}
		was, there := merged[key]
		if !there {
			was = map[string]any{}
		}
		merged[key] = modelMerge(was, member)
	}
	return merged
}

func modelCost(a, b any, cells int) int {
	if reflect.DeepEqual(a, b) {
		return 0
	}
	switch a := a.(type) {
	case map[string]any:
		if b, ok := b.(map[string]any); ok {
			return modelCostOfObjects(a, b, cells)
		}
	case []any:
		if b, ok := b.([]any); ok && (len(a)+1)*(len(b)+1) <= cells {
			return len(a) + len(b) - 2*modelCommon(a, b)
		}
	}
	return 1
}

func modelCostOfObjects(a, b map[string]any, cells int) int {
	cost := 0
	for key, was := range a {
		is, there := b[key]
		if !there {
			cost++
			continue
		}
		cost += modelCost(was, is, cells)
	}
	for key := range b {
		if _, there := a[key]; !there {
			cost++
		}
	}
	return cost
}

// modelCommon is how long a longest common subsequence is: of what is read of
// a so far, row[j] is that with the first j elements of b.
func modelCommon(a, b []any) int {
	row := make([]int, len(b)+1)
	for _, x := range a {
		next := make([]int, len(b)+1)
		for j, y := range b {
			next[j+1] = max(next[j], row[j+1])
			if reflect.DeepEqual(x, y) {
				next[j+1] = row[j] + 1
			}
		}
		row = next
	}
	return row[len(b)]
}

// commonByTrying is the same, found by trying all subsequences of a.
func commonByTrying(a, b []any) int {
	most := 0
	for chosen := range uint(1) << len(a) {
		rest, found := b, true
		for i, x := range a {
			if chosen>>i&1 == 0 {
				continue
			}
			at := slices.IndexFunc(rest, func(y any) bool { return reflect.DeepEqual(x, y) })
			if found = at >= 0; !found {
				break
			}
			rest = rest[at+1:]
		}
		if found {
			most = max(most, bits.OnesCount(chosen))
		}
	}
	return most
}

// changed is v with a few of its parts made new by chance.
func (m maker) changed(v any, depth int) any {
	v = copied(v)
	for range m.Intn(4) {
		o := map[string]any{"op": []string{"add", "remove", "replace", "move", "copy"}[m.Intn(5)], "path": m.pointer(v), "from": m.pointer(v), "value": m.value(m.Intn(depth) + 1)}
		if after, code := modelOperation(v, o); code == api.OK && depthOf(after) <= depth {
			v = after
		}
	}
	return v
}

func TestP6P7MergeByChance(t *testing.T) {
	m := maker{rand.New(rand.NewSource(7))}
	for range 20000 {
		depth := 2 + m.Intn(4)
		c := api.Config{Depth: depth, Exponent: 5}
		document, p := m.value(depth), m.value(depth)
		if m.Intn(2) == 0 {
			p = m.changed(document, depth)
		}
		want := modelMerge(document, p)
		script := []api.Op{load(written(document)), dump, merge(written(p)), dump, invert}
		got := amend.Run(c, script)
		if got[2] != told("") || !reflect.DeepEqual(parse(t, got[3].Text), want) {
			t.Fatalf("%s, MERGE %s: %+v and %s, want %s", written(document), written(p), got[2], got[3].Text, written(want))
		}
		back := got[4].Text
		again := amend.Run(c, append(script, merge(written(p)), dump, invert, patch(back), dump, invert))
		if again[5] != told("") || again[6] != got[3] {
			t.Fatalf("%s, MERGE %s twice: %+v", written(document), written(p), again[5:])
		}
		if again[8] != told("") || again[9] != got[1] {
			t.Fatalf("%s, MERGE %s, PATCH %s: %+v and %s", written(document), written(p), back, again[8], again[9].Text)
		}
		forth := amend.Run(c, append(script, patch(back), patch(again[10].Text), dump))
		if forth[6] != told("") || forth[7] != got[3] {
			t.Fatalf("%s, MERGE %s, there and back, PATCH %s: %+v and %s", written(document), written(p), again[10].Text, forth[6], forth[7].Text)
		}
	}
}

func TestP7MergeDiffByChance(t *testing.T) {
	m := maker{rand.New(rand.NewSource(8))}
	never := 0
	for range 20000 {
		depth := 2 + m.Intn(4)
		c := api.Config{Depth: depth, Exponent: 5}
		document := m.value(depth)
		to := []any{m.value(depth), m.changed(document, depth), modelMerge(document, m.value(depth))}[m.Intn(3)]
		script := []api.Op{load(written(document)), mergeDiff(written(to))}
		got := amend.Run(c, script)[1]
		if bringsNull(document, to) {
			never++
			if got != refused(api.ErrNever) {
				t.Fatalf("from %s to %s: %+v", written(document), written(to), got)
			}
			continue
		}
		all := amend.Run(c, append(script, merge(got.Text), dump))
		if got.Code != api.OK || all[2] != told("") || !reflect.DeepEqual(parse(t, all[3].Text), to) {
			t.Fatalf("from %s to %s: %+v, and then %+v", written(document), written(to), got, all[2:])
		}
	}
	if never < 200 {
		t.Errorf("%d are never: too few to tell", never)
	}
}

// bringsNull tells whether a null stands in an object of b, though where none
// stands in a; what is in arrays does not count.
func bringsNull(a, b any) bool {
	object, ok := b.(map[string]any)
	if !ok {
		return false
	}
	was, _ := a.(map[string]any)
	for key, member := range object {
		before, there := was[key]
		if member == nil && (!there || before != nil) || bringsNull(before, member) {
			return true
		}
	}
	return false
}

// fewValues are all values of a depth, of objects with the key a or b or both,
// and of a few others.
func fewValues(depth int) []any {
	values := []any{nil, true, []any{nil}}
	if depth == 1 {
		return values
	}
	for _, a := range append(fewValues(depth-1), "none") {
		for _, b := range append(fewValues(depth-1), "none") {
			object := map[string]any{"a": a, "b": b}
			maps.DeleteFunc(object, func(_ string, v any) bool { return v == "none" })
			values = append(values, object)
		}
	}
	return values
}

// Of few values all merge patches can be tried.
func TestP7MergeDiffByTrying(t *testing.T) {
	values := fewValues(3)
	var script []api.Op
	for _, to := range values {
		script = append(script, mergeDiff(written(to)))
	}
	for _, document := range fewValues(2) {
		made := map[string]int{}
		for _, p := range values {
			made[written(modelMerge(document, p))]++
		}
		got := amend.Run(widest, append([]api.Op{load(written(document))}, script...))[1:]
		for i, to := range values {
			want := api.OK
			if made[written(to)] == 0 {
				want = api.ErrNever
			}
			if got[i].Code != want {
				t.Errorf("from %s to %s: %+v", written(document), written(to), got[i])
			}
			if want == api.OK && !reflect.DeepEqual(modelMerge(document, parse(t, got[i].Text)), to) {
				t.Errorf("from %s to %s: %s", written(document), written(to), got[i].Text)
			}
		}
	}
}

// held holds what DIFF tells against the model.
func held(t *testing.T, c api.Config, from, to any) {
	t.Helper()
	got := amend.Run(c, []api.Op{load(written(from)), diff(written(to))})[1]
	if got.Code != api.OK {
		t.Fatalf("from %s to %s: %+v", written(from), written(to), got)
	}
	if n := modelCost(from, to, c.Cells); len(plainOperations(t, got.Text)) != n {
		t.Fatalf("from %s to %s, %d cells: %s, want %d operations", written(from), written(to), c.Cells, got.Text, n)
	}
	p := parse(t, got.Text).([]any)
	if end, answer := modelPatch(from, p, c.Depth); answer != told("") || !reflect.DeepEqual(end, to) {
		t.Fatalf("from %s to %s: %s leads to %s, %+v", written(from), written(to), got.Text, written(end), answer)
	}
	if len(got.Text) <= api.MaxText {
		leads := amend.Run(c, []api.Op{load(written(from)), patch(got.Text), test("", written(to)), diff(written(to))})
		if leads[1] != told("") || leads[2] != told("") || leads[3] != told("[]") {
			t.Fatalf("from %s to %s: %s, and then %+v", written(from), written(to), got.Text, leads[1:])
		}
	}
}

func TestP8ByChance(t *testing.T) {
	m := maker{rand.New(rand.NewSource(9))}
	for i := range 20000 {
		depth := 2 + m.Intn(4)
		c := api.Config{Depth: depth, Exponent: 5, Cells: []int{0, 1, 4, 9, 12, 16, 2000}[m.Intn(7)]}
		from, to := m.value(depth), m.value(depth)
		if i%4 > 0 {
			to = m.changed(from, depth)
		}
		held(t, c, from, to)
	}
}

func TestP8ArraysByChance(t *testing.T) {
	m := maker{rand.New(rand.NewSource(10))}
	elements := []any{1.0, 2.0, nil, []any{1.0}, []any{}, map[string]any{"a": 1.0}, "1"}
	for range 2000 {
		kinds := 1 + m.Intn(len(elements))
		array := func() []any {
			list := []any{}
			for range m.Intn(10) {
				list = append(list, elements[m.Intn(kinds)])
			}
			return list
		}
		from, to := array(), array()
		if tried := commonByTrying(from, to); tried != modelCommon(from, to) {
			t.Fatalf("%s and %s have %d in common", written(from), written(to), tried)
		}
		cells := (len(from) + 1) * (len(to) + 1)
		for _, n := range []int{cells - 1, cells, api.MaxCells} {
			held(t, api.Config{Depth: 4, Exponent: 1, Cells: n}, from, to)
		}
	}
}
