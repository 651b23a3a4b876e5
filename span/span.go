// Package span contains what all layers do with spans of numbers.
package span

import "kreisel/api"

// One returns the span of just one number.
func One(number int) api.Span { return api.Span{Lo: number, Hi: number} }

// UpTo returns the span of all numbers from 0 to another one.
func UpTo(number int) api.Span { return api.Span{Lo: 0, Hi: number} }

// Indices returns the span of all indices of a list.
func Indices[T any](list []T) api.Span { return UpTo(len(list) - 1) }

// Around returns the span of all numbers that differ from 0 by at most another one.
func Around(number int) api.Span { return api.Span{Lo: -number, Hi: number} }

// Within tells whether all numbers are in a span.
func Within(s api.Span, numbers ...int) bool {
	for _, n := range numbers {
		if n < s.Lo || n > s.Hi {
			return false
		}
	}
	return true
}

// Rising tells whether all numbers are in a span, in increasing order, no one twice.
func Rising(s api.Span, numbers ...int) bool {
	for i, n := range numbers {
		if !Within(s, n) || i > 0 && numbers[i-1] >= n {
			return false
		}
	}
	return true
}

// Fits tells whether a span has its ends in order, and both of them in another span.
func Fits(s, in api.Span) bool { return s.Lo <= s.Hi && Within(in, s.Lo, s.Hi) }

// A Limit is a span that is told, and another one in which it has to lie.
type Limit struct{ Told, In api.Span }

// Valid tells whether all spans fit where they have to lie.
func Valid(limits ...Limit) bool {
	for _, l := range limits {
		if !Fits(l.Told, l.In) {
			return false
		}
	}
	return true
}

// Low returns the least number of a span.
func Low(s api.Span) int { return s.Lo }

// High returns the greatest number of a span.
func High(s api.Span) int { return s.Hi }

// Both returns the span of all numbers that are in two spans; its Lo is above its Hi if there is none.
func Both(a, b api.Span) api.Span { return api.Span{Lo: max(a.Lo, b.Lo), Hi: min(a.Hi, b.Hi)} }

// Plus returns the span of sums of a number of each span.
func Plus(a, b api.Span) api.Span { return api.Span{Lo: a.Lo + b.Lo, Hi: a.Hi + b.Hi} }

// Minus returns the span of differences of a number of each span.
func Minus(a, b api.Span) api.Span { return api.Span{Lo: a.Lo - b.Hi, Hi: a.Hi - b.Lo} }

// Whole returns the span from the least number of some spans to the greatest one; there has to be one at least.
func Whole(list ...api.Span) api.Span {
	all := list[0]
	for _, s := range list[1:] {
		all = api.Span{Lo: min(all.Lo, s.Lo), Hi: max(all.Hi, s.Hi)}
	}
	return all
}

// Known returns what is known of a number being in a span, if it is in one of some others.
func Known(in api.Span, others ...api.Span) uint8 {
	inside, outside := 0, 0
	for _, s := range others {
		switch both := Both(s, in); {
		case both == s:
			inside++
		case both.Lo > both.Hi:
			outside++
		}
	}
	switch len(others) {
	case inside:
		return api.KnownYes
	case outside:
		return api.KnownNo
	}
	return api.KnownOpen
}

// First returns the first number of which something is so, from one number on and before another one, or the latter if there is none. If it is so of a number it has to be so of all behind it.
func First[N ~int](from, to N, so func(number N) bool) N {
	for from < to {
		middle := from + (to-from)/2
		if so(middle) {
			to = middle
		} else {
			from = middle + 1
		}
	}
	return from
}
