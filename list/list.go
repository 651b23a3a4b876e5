// Package list contains what layers do with lists of things.
package list

// Pick returns the indices of all things of a list of which something is so, in increasing order.
func Pick[T any](list []T, so func(i int, thing T) bool) []int {
	var picked []int
	for i, thing := range list {
		if so(i, thing) {
			picked = append(picked, i)
		}
	}
	return picked
}

// Count returns of how many things of a list something is so.
func Count[T any](list []T, so func(thing T) bool) int {
	count := 0
	for _, thing := range list {
		if so(thing) {
			count++
		}
	}
	return count
}
