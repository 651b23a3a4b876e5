// Package set contains what layers do with sets of indices. A set is a number: an index is in it if its bit is 1.
package set

import "math/bits"

// All returns the set of all indices of a list of so many things.
func All(count int) int { return 1<<count - 1 }

// Has tells whether an index is in a set.
func Has(s, index int) bool { return s>>index&1 == 1 }

// Without returns what is left of a set if some indices are taken out of it.
func Without(s int, indices ...int) int {
	for _, i := range indices {
		s &^= 1 << i
	}
	return s
}

// Members returns all indices of a set, in increasing order.
func Members(s int) []int {
	var list []int
	for i := range bits.Len(uint(s)) {
		if Has(s, i) {
			list = append(list, i)
		}
	}
	return list
}
