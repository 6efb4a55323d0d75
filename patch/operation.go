// Package patch reads patches, and tells them.
package patch

import (
	"amend/pointer"
	"amend/value"
)

// Kind tells what an operation does.
type Kind int

const (
	Add Kind = iota
	Remove
	Replace
	Move
	Copy
	Test
)

// Operation is an operation of a patch.
type Operation struct {
	Kind  Kind
	Path  pointer.Pointer
	From  pointer.Pointer // counts for Move and Copy alone
	Value *value.Value    // counts for Add, Replace and Test alone
}

// need is what an element of a patch needs beside a path, to be an operation.
type need struct {
	op          string
	value, from bool
}

// operations are all that there are, each at the place of its kind.
var operations = [...]need{
	Add:     {op: "add", value: true},
	Remove:  {op: "remove"},
	Replace: {op: "replace", value: true},
	Move:    {op: "move", from: true},
	Copy:    {op: "copy", from: true},
	Test:    {op: "test", value: true},
}
