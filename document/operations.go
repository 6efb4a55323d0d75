package document

import (
	"slices"

	"amend/api"
	"amend/patch"
	"amend/pointer"
	"amend/value"
)

// do does an operation. With an error it may be done in part, as the journal
// tells.
func (d *Document) do(o patch.Operation) api.Errno {
	ways := [...]func(patch.Operation) api.Errno{
		patch.Add:     d.doAdd,
		patch.Remove:  d.doRemove,
		patch.Replace: d.doReplace,
		patch.Move:    d.doMove,
		patch.Copy:    d.doCopy,
		patch.Test:    d.doTest,
	}
	return ways[o.Kind](o)
}

func (d *Document) doAdd(o patch.Operation) api.Errno { return d.add(o.Path, o.Value) }

func (d *Document) doRemove(o patch.Operation) api.Errno {
	if len(o.Path) == 0 {
		return api.ErrTarget
	}
	at, code := d.taken(o.Path)
	if code != api.OK {
		return code
	}
	d.remove(at)
	return api.OK
}

func (d *Document) doReplace(o patch.Operation) api.Errno {
	at, code := d.taken(o.Path)
	if code != api.OK {
		return code
	}
	d.swap(at, o.Value.Clone())
	return api.OK
}

func (d *Document) doMove(o patch.Operation) api.Errno {
	at, code := d.taken(o.From)
	switch {
	case code != api.OK:
		return code
	case slices.Equal(o.From, o.Path):
		return api.OK
	case leadsThrough(o.Path, o.From):
		return api.ErrMove
	}
	moved := at.get()
	d.remove(at)
	return d.add(o.Path, moved)
}

// leadsThrough tells whether the way of p goes on from where the other ends.
func leadsThrough(p, other pointer.Pointer) bool {
	return len(p) > len(other) && slices.Equal(p[:len(other)], other)
}

func (d *Document) doCopy(o patch.Operation) api.Errno {
	v, code := o.From.Find(d.Whole())
	if code != api.OK {
		return code
	}
	return d.add(o.Path, v)
}

func (d *Document) doTest(o patch.Operation) api.Errno {
	v, code := o.Path.Find(d.Whole())
	switch {
	case code != api.OK:
		return code
	case !value.Same(v, o.Value):
		return api.ErrTest
	}
	return api.OK
}

// add adds a value that is the same as v.
func (d *Document) add(p pointer.Pointer, v *value.Value) api.Errno {
	v = v.Clone()
	if len(p) == 0 {
		d.put(place{in: d.root}, v)
		return api.OK
	}
	in, token, code := d.parent(p)
	if code != api.OK {
		return code
	}
	switch in.Kind {
	case value.Object:
		d.put(place{path: p, in: in, key: token}, v)
		return api.OK
	case value.Array:
		i, code := slot(in, token)
		if code == api.OK {
			d.insert(place{path: number(p, i), in: in, index: i}, v)
		}
		return code
	}
	return api.ErrTarget
}
