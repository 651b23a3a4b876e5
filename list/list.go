// Package list contains what layers do with lists of things.
package list

import "slices"

// Pick returns the indices of all things of a list of which something is so, in increasing order.
func Pick[T any](list []T, so func(i int, thing T) bool) []int {
	var picked []int
	for i, thing := range list {
		if so(i, thing) {
			picked = append(picked, i)
		}
	}
	return picked
}

// Count returns of how many things of a list something is so.
func Count[T any](list []T, so func(thing T) bool) int {
	count := 0
	for _, thing := range list {
		if so(thing) {
			count++
		}
	}
	return count
}

// First returns the first one of several things (there is one at least), in an order that tells which of two is before the other one.
func First[T any](list []T, before func(a, b T) bool) T {
	found := list[0]
	for _, thing := range list[1:] {
		if before(thing, found) {
			found = thing
		}
	}
	return found
}

// Fewer tells whether a list has fewer numbers than another one, or as many, and a lesser one where they first differ.
func Fewer(a, b []int) bool {
	if len(a) != len(b) {
		return len(a) < len(b)
	}
	return slices.Compare(a, b) < 0
}
