package value

// Clone makes a value that is the same and shares nothing that could change.
func (v *Value) Clone() *Value {
	c := *v
	switch v.Kind {
	case Array:
		c.Elements = make([]*Value, len(v.Elements))
		for i, element := range v.Elements {
			c.Elements[i] = element.Clone()
		}
	case Object:
		c.Members = make(map[string]*Value, len(v.Members))
		for key, member := range v.Members {
			c.Members[key] = member.Clone()
		}
	}
	return &c
}
