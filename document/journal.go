package document

import (
	"slices"

	"amend/patch"
	"amend/value"
)

// change is a line of the journal: of one change that was made.
type change struct {
	back    func()          // takes it back
	inverse patch.Operation // tells what takes it back
}

func (d *Document) lay(back func(), inverse patch.Operation) {
	d.journal = append(d.journal, change{back, inverse})
}

// takeBack plays the journal backwards.
func (d *Document) takeBack() {
	for _, c := range slices.Backward(d.journal) {
		c.back()
	}
	d.journal = nil
}

// keep lets what the journal has be the last amendment.
func (d *Document) keep() {
	d.inverse = nil
	for _, c := range slices.Backward(d.journal) {
		d.inverse = append(d.inverse, c.inverse)
	}
	d.changed = true
	d.journal = nil
}

// What follows is all that changes a document. A value that has left its place
// never comes in again, but for being taken back: so the operations of the
// journal hold on to values that nothing changes any more.

// swap lets v stand where another value stands.
func (d *Document) swap(at place, v *value.Value) {
	old := at.get()
	at.set(v)
	d.lay(
		func() { at.set(old) },
		patch.Operation{Kind: patch.Replace, Path: at.path, Value: old})
}

// insert lets v stand where nothing does, or ahead of an element.
func (d *Document) insert(at place, v *value.Value) {
	at.insert(v)
	d.lay(
		func() { at.remove() },
		patch.Operation{Kind: patch.Remove, Path: at.path})
}

// remove takes away what stands there.
func (d *Document) remove(at place) {
	old := at.get()
	at.remove()
	d.lay(
		func() { at.insert(old) },
		patch.Operation{Kind: patch.Add, Path: at.path, Value: old})
}

// put lets v stand there, whether something else does or not.
func (d *Document) put(at place, v *value.Value) {
	if at.get() != nil {
		d.swap(at, v)
		return
	}
	d.insert(at, v)
}
