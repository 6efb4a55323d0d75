// Package value holds what a document is made of: values and exact numbers.
package value

// Kind tells which sort of value a Value is, and so which of its fields count.
type Kind int

const (
	Null Kind = iota
	True
	False
	Numeral
	String
	Array
	Object
)

// Value is one value of a document.
type Value struct {
	Kind     Kind
	Number   Number            // of a Numeral
	Text     string            // of a String: its scalar values as UTF-8
	Elements []*Value          // of an Array
	Members  map[string]*Value // of an Object
}
