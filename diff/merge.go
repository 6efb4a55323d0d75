package diff

import "amend/value"

// MergePatch makes a merge patch that makes a value of another one, if there
// is any. It has parts of that value in it, and so is not to be changed.
func MergePatch(from, to *value.Value) (p *value.Value, ok bool) {
	if to.Kind != value.Object {
		return to, true
	}
	members := map[string]*value.Value{}
	// What is no object has no members, and so counts as one without any.
	for key := range from.Members {
		if _, stays := to.Members[key]; !stays {
			members[key] = &value.Value{Kind: value.Null}
		}
	}
	for key, is := range to.Members {
		was, there := from.Members[key]
		switch {
		case there && value.Same(was, is):
			continue
		case is.Kind == value.Null:
			// No merge patch puts a null into an object: it can but stay.
			return nil, false
		case !there:
			was = &value.Value{Kind: value.Object}
		}
		member, ok := MergePatch(was, is)
		if !ok {
			return nil, false
		}
		members[key] = member
	}
	return &value.Value{Kind: value.Object, Members: members}, true
}
