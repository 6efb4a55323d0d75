package diff

import (
	"slices"

	"amend/value"
)

// pair is the number of an element of one array, and one of another.
type pair struct{ a, b int }

// lengths hold how long a longest common subsequence of the rests of two
// arrays is, by the pair of elements at which the rests begin. Of an empty rest
// there is no key: so its length is 0.
type lengths map[pair]int

func lengthsOf(a, b []*value.Value) lengths {
	left := lengths{}
	for i, x := range slices.Backward(a) {
		for j, y := range slices.Backward(b) {
			if value.Same(x, y) {
				left[pair{i, j}] = 1 + left[pair{i + 1, j + 1}]
				continue
			}
			left[pair{i, j}] = max(left[pair{i + 1, j}], left[pair{i, j + 1}])
		}
	}
	return left
}
