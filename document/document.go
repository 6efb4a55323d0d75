// Package document keeps a document, changes it in place, and takes changes
// back.
package document

import (
	"amend/api"
	"amend/patch"
	"amend/text"
	"amend/value"
)

// Document is a document that is changed in place. It shares nothing with the
// values that come in by patches.
type Document struct {
	// root is an array that has the whole as its one element: so the whole
	// stands in a place too.
	root    *value.Value
	journal []change // what was done since the last amendment
	changed bool     // whether there was an amendment at all
	inverse []patch.Operation
}

// New makes a document of a value, which is its own from then on.
func New(whole *value.Value) *Document {
	return &Document{root: &value.Value{Kind: value.Array, Elements: []*value.Value{whole}}}
}

// Whole is the value of the document.
func (d *Document) Whole() *value.Value { return d.root.Elements[0] }

// Inverse is the patch that leads to what the document was ahead of its last
// amendment, if there was one. Who asks must not change it.
func (d *Document) Inverse() (p []patch.Operation, ok bool) { return d.inverse, d.changed }

// Patch does a patch, all of it or, with an error, nothing; at is the number
// of the operation with the error. The whole stays within the depth.
func (d *Document) Patch(p []patch.Operation, depth int) (at int, code api.Errno) {
	for i, o := range p {
		code := d.do(o)
		if code == api.OK {
			code = d.measure(depth)
		}
		if code != api.OK {
			d.takeBack()
			return i, code
		}
	}
	d.keep()
	return 0, api.OK
}

// measure tells whether the document has become too deep, or too long.
func (d *Document) measure(depth int) api.Errno {
	switch {
	case d.Whole().Depth() > depth:
		return api.ErrDepth
	case d.isLong():
		return api.ErrLong
	}
	return api.OK
}

func (d *Document) isLong() bool { return len(text.Canonical(d.Whole())) > api.MaxWhole }
