package document

import (
	"maps"
	"slices"

	"amend/api"
	"amend/value"
)

// Merge merges the document with a merge patch, unless it becomes too long.
// (It becomes no deeper than it was, or the merge patch is.)
func (d *Document) Merge(p *value.Value) api.Errno {
	d.merge(place{in: d.root}, p)
	if d.isLong() {
		d.takeBack()
		return api.ErrLong
	}
	d.keep()
	return api.OK
}

func (d *Document) merge(at place, p *value.Value) {
	v := at.get()
	if v == nil || v.Kind != value.Object || p.Kind != value.Object {
		d.put(at, merged(p))
		return
	}
	// In the order of the keys, so that the journal does not hang on how the
	// map is gone through.
	for _, key := range slices.Sorted(maps.Keys(p.Members)) {
		d.mergeMember(place{path: at.path.To(key), in: v, key: key}, p.Members[key])
	}
}

func (d *Document) mergeMember(at place, p *value.Value) {
	switch {
	case p.Kind != value.Null:
		d.merge(at, p)
	case at.get() != nil:
		d.remove(at)
	}
}

// merged is what is no object, or one without members, merged with p.
func merged(p *value.Value) *value.Value {
	if p.Kind != value.Object {
		return p.Clone()
	}
	members := map[string]*value.Value{}
	for key, member := range p.Members {
		if member.Kind != value.Null {
			members[key] = merged(member)
		}
	}
	return &value.Value{Kind: value.Object, Members: members}
}
