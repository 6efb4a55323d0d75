package patch

import (
	"amend/text"
	"amend/value"
)

// Text tells the canonical text of a patch.
func Text(p []Operation) string {
	whole := &value.Value{Kind: value.Array}
	for _, o := range p {
		whole.Elements = append(whole.Elements, o.element())
	}
	return text.Canonical(whole)
}

// element is the operation as an element of a patch, with what it needs alone.
func (o Operation) element() *value.Value {
	n := operations[o.Kind]
	members := map[string]*value.Value{
		"op":   quoted(n.op),
		"path": quoted(o.Path.String()),
	}
	if n.value {
		members["value"] = o.Value
	}
	if n.from {
		members["from"] = quoted(o.From.String())
	}
	return &value.Value{Kind: value.Object, Members: members}
}

func quoted(s string) *value.Value { return &value.Value{Kind: value.String, Text: s} }
