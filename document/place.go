package document

import (
	"slices"
	"strconv"

	"amend/api"
	"amend/pointer"
	"amend/value"
)

// place is where a value stands, or may be put: in an object, or in an array.
type place struct {
	path  pointer.Pointer // what points to it
	in    *value.Value
	key   string // in an object
	index int    // in an array
}

// get is what stands there: nil, if it is a member that is not there.
func (at place) get() *value.Value {
	if at.in.Kind == value.Object {
		return at.in.Members[at.key]
	}
	return at.in.Elements[at.index]
}

func (at place) set(v *value.Value) {
	if at.in.Kind == value.Object {
		at.in.Members[at.key] = v
		return
	}
	at.in.Elements[at.index] = v
}

func (at place) insert(v *value.Value) {
	if at.in.Kind == value.Object {
		at.in.Members[at.key] = v
		return
	}
	at.in.Elements = slices.Insert(at.in.Elements, at.index, v)
}

func (at place) remove() {
	if at.in.Kind == value.Object {
		delete(at.in.Members, at.key)
		return
	}
	at.in.Elements = slices.Delete(at.in.Elements, at.index, at.index+1)
}

// parent is what p's last token leads on from.
func (d *Document) parent(p pointer.Pointer) (in *value.Value, token string, code api.Errno) {
	last := len(p) - 1
	in, code = p[:last].Find(d.Whole())
	return in, p[last], code
}

// taken is the place of what p points to.
func (d *Document) taken(p pointer.Pointer) (place, api.Errno) {
	if len(p) == 0 {
		return place{in: d.root}, api.OK
	}
	in, token, code := d.parent(p)
	if code != api.OK {
		return place{}, code
	}
	if _, code := pointer.Child(in, token); code != api.OK {
		return place{}, code
	}
	i, _ := pointer.Index(token)
	return place{path: p, in: in, key: token, index: i}, api.OK
}

// slot tells ahead of which element of an array a token puts a value; the end
// is ahead of none.
func slot(array *value.Value, token string) (int, api.Errno) {
	end := len(array.Elements)
	if token == "-" {
		return end, api.OK
	}
	i, ok := pointer.Index(token)
	switch {
	case !ok:
		return 0, api.ErrIndex
	case i > end:
		return 0, api.ErrTarget
	}
	return i, api.OK
}

// number is p with a number as its last token.
func number(p pointer.Pointer, n int) pointer.Pointer {
	numbered := slices.Clone(p)
	numbered[len(p)-1] = strconv.Itoa(n)
	return numbered
}
