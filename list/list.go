// Package list contains what layers do with lists of things.
package list

// Pick returns the indices of all things of a list of which something is so, in increasing order.
func Pick[T any](list []T, so func(i int, thing T) bool) []int {
	var picked []int
	for i, thing := range list {
		if so(i, thing) {
			picked = append(picked, i)
		}
	}
	return picked
}
