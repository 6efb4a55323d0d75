package value

// Depth tells how deep a value is: 1, or one more than the deepest in it.
func (v *Value) Depth() int {
	within := 0
	switch v.Kind {
	case Array:
		for _, element := range v.Elements {
			within = max(within, element.Depth())
		}
	case Object:
		for _, member := range v.Members {
			within = max(within, member.Depth())
		}
	}
	return 1 + within
}
