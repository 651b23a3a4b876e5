package ice

import (
	"slices"

	"kreisel/api"
)

// Short returns the first hour for which there is no safe plan, and hours that show it (P2.7).
func Short(c api.Cover) (hour int, hours []int, e api.Errno) {
	if e := Check(c); e != api.OK {
		return 0, nil, e
	}
	w := coat{c}
	needs := w.needs()
	for last := range len(c.Hours) {
		// Hands can be found for all needs just if no hours are short: the greatest flow is the least cut.
		if lists := w.short(needs, last); len(lists) > 0 {
			return last, first(lists, fewer), api.OK
		}
	}
	return 0, nil, api.ErrNone
}

// short returns all lists of hours before another one that are short for the needs for it, and for those before it.
func (c coat) short(needs [][]int, last int) [][]int {
	var lists [][]int
	for set := range 1 << last {
		asked, hands := 0, 0
		for _, need := range needs {
			asked += c.beyond(need[:last+1], set)
		}
		hours := members(set)
		for _, hour := range hours {
			hands += c.hands(hour)
		}
		if asked > hands {
			lists = append(lists, hours)
		}
	}
	return lists
}

// beyond returns how often a stretch has to be sprayed in hours of a set, however often it is in all others.
func (c coat) beyond(needs []int, set int) int {
	most, others := 0, 0
	for hour, need := range needs {
		most = greatest(most, need-others)
		if c.Hours[hour].Cold && !has(set, hour) {
			others++
		}
	}
	return most
}

// has tells whether an hour is in a set.
func has(set, hour int) bool { return set>>hour&1 == 1 }

// members returns the hours of a set, in increasing order.
func members(set int) []int {
	var list []int
	for hour := range api.MaxHours {
		if has(set, hour) {
			list = append(list, hour)
		}
	}
	return list
}

// fewer tells whether a list has fewer hours than another one, or as many, and a lesser one where they first differ.
func fewer(a, b []int) bool {
	if len(a) != len(b) {
		return len(a) < len(b)
	}
	return slices.Compare(a, b) < 0
}

// first returns the first one of several things (there is one at least), in an order that tells which of two is before the other one.
func first[T any](list []T, before func(a, b T) bool) T {
	found := list[0]
	for _, thing := range list[1:] {
		if before(thing, found) {
			found = thing
		}
	}
	return found
}
