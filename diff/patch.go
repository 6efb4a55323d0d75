// Package diff tells what leads from one value to another.
package diff

import (
	"maps"
	"slices"
	"strconv"

	"amend/patch"
	"amend/pointer"
	"amend/value"
)

// maker makes a patch as it goes through two values.
type maker struct {
	cells int // how large the table of two arrays may be
	made  []patch.Operation
}

// Patch makes a patch that leads from one value to another, of as many
// operations as the cost. It has parts of the other value in it, and so is not
// to be changed.
func Patch(from, to *value.Value, cells int) []patch.Operation {
	m := maker{cells: cells}
	m.values(nil, from, to)
	return m.made
}

func (m *maker) lay(kind patch.Kind, path pointer.Pointer, v *value.Value) {
	m.made = append(m.made, patch.Operation{Kind: kind, Path: path, Value: v})
}

// values leads from one value to another at the path.
func (m *maker) values(path pointer.Pointer, from, to *value.Value) {
	switch {
	case from.Kind == value.Object && to.Kind == value.Object:
		m.objects(path, from.Members, to.Members)
	case from.Kind == value.Array && to.Kind == value.Array && m.holds(from, to):
		m.arrays(path, from.Elements, to.Elements)
	case !value.Same(from, to):
		m.lay(patch.Replace, path, to)
	}
}

func (m *maker) objects(path pointer.Pointer, from, to map[string]*value.Value) {
	for _, key := range keysOf(from, to) {
		was, is := from[key], to[key]
		member := path.To(key)
		switch {
		case is == nil:
			m.lay(patch.Remove, member, nil)
		case was == nil:
			m.lay(patch.Add, member, is)
		default:
			m.values(member, was, is)
		}
	}
}

// keysOf are the keys that one of two objects has, or both, in their order.
func keysOf(a, b map[string]*value.Value) []string {
	keys := slices.AppendSeq(slices.Collect(maps.Keys(a)), maps.Keys(b))
	slices.Sort(keys)
	return slices.Compact(keys)
}

// holds tells whether the table of two arrays is not too large.
func (m *maker) holds(a, b *value.Value) bool {
	return (len(a.Elements)+1)*(len(b.Elements)+1) <= m.cells
}

// arrays takes away what is not common to both, and only then puts in what is
// missing: so on its way the array is never longer than at one of its ends.
func (m *maker) arrays(path pointer.Pointer, from, to []*value.Value) {
	left := lengthsOf(from, to)
	var missing []int
	i, j, kept := 0, 0, 0
	for i < len(from) || j < len(to) {
		here := left[pair{i, j}]
		switch {
		case i < len(from) && left[pair{i + 1, j}] == here:
			m.lay(patch.Remove, path.To(strconv.Itoa(kept)), nil)
			i++
		case j < len(to) && left[pair{i, j + 1}] == here:
			missing = append(missing, j)
			j++
		default:
			i, j, kept = i+1, j+1, kept+1
		}
	}
	for _, j := range missing {
		m.lay(patch.Add, path.To(strconv.Itoa(j)), to[j])
	}
}
