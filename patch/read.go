package patch

import (
	"amend/pointer"
	"amend/value"
)

// Read reads the patch that a value tells. If it tells none, at is the number
// of the first element that is no operation: 0, if the value is no array.
func Read(v *value.Value) (p []Operation, at int, ok bool) {
	if v.Kind != value.Array {
		return nil, 0, false
	}
	known := kinds()
	for i, element := range v.Elements {
		o, ok := known.read(element)
		if !ok {
			return nil, i, false
		}
		p = append(p, o)
	}
	return p, 0, true
}

// byNeed holds which operations there are, by what they need.
type byNeed map[need]Kind

func kinds() byNeed {
	known := byNeed{}
	for kind, n := range operations {
		known[n] = Kind(kind)
	}
	return known
}

func (known byNeed) read(element *value.Value) (Operation, bool) {
	// What is no object has no members.
	path, ok := pointerOf(element.Members["path"])
	if !ok {
		return Operation{}, false
	}
	from, hasFrom := pointerOf(element.Members["from"])
	v, hasValue := element.Members["value"]
	// The empty text, if there is no string, is the name of no operation.
	name, _ := stringOf(element.Members["op"])
	kind, ok := known.find(need{op: name, value: hasValue, from: hasFrom})
	if !ok {
		return Operation{}, false
	}
	return Operation{Kind: kind, Path: path, From: from, Value: v}, true
}

// find finds the operation of this name that needs nothing but what there is;
// what there is beyond that is of no matter.
func (known byNeed) find(has need) (Kind, bool) {
	enough := [...]need{
		{op: has.op},
		{op: has.op, value: has.value},
		{op: has.op, from: has.from},
	}
	for _, n := range enough {
		if kind, there := known[n]; there {
			return kind, true
		}
	}
	return 0, false
}

func stringOf(v *value.Value) (string, bool) {
	if v == nil || v.Kind != value.String {
		return "", false
	}
	return v.Text, true
}

func pointerOf(v *value.Value) (pointer.Pointer, bool) {
	s, ok := stringOf(v)
	if !ok {
		return nil, false
	}
	return pointer.Read(s)
}
