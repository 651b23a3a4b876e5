package track

import "kreisel/api"

// one returns the span of just one number.
func one(number int) api.Span { return api.Span{Lo: number, Hi: number} }

// within tells whether all numbers are in a span.
func within(s api.Span, numbers ...int) bool {
	for _, n := range numbers {
		if n < s.Lo || n > s.Hi {
			return false
		}
	}
	return true
}

// fits tells whether a span has its ends in order, and both of them in another span.
func fits(s, in api.Span) bool { return s.Lo <= s.Hi && within(in, s.Lo, s.Hi) }

// plus returns the span of sums of a number of each span.
func plus(a, b api.Span) api.Span { return api.Span{Lo: a.Lo + b.Lo, Hi: a.Hi + b.Hi} }

// minus returns the span of differences of a number of each span.
func minus(a, b api.Span) api.Span { return api.Span{Lo: a.Lo - b.Hi, Hi: a.Hi - b.Lo} }

// pick returns the indices of all things of a list of which something is so, in increasing order.
func pick[T any](list []T, so func(i int, thing T) bool) []int {
	var picked []int
	for i, thing := range list {
		if so(i, thing) {
			picked = append(picked, i)
		}
	}
	return picked
}
