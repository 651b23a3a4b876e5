package scale

import (
	"cmp"
	"slices"

	"kreisel/api"
	"kreisel/span"
)

// A choice is indices of pieces, in increasing order, and what they weigh.
type choice struct {
	pieces []int
	weight int
}

// better tells whether a choice comes before another one: it is lighter, or as light and of fewer pieces, or of as many and of earlier ones.
func (c choice) better(than choice) bool {
	return cmp.Or(
		cmp.Compare(c.weight, than.weight),
		cmp.Compare(len(c.pieces), len(than.pieces)),
		slices.Compare(c.pieces, than.pieces),
	) < 0
}

// lightest returns the best choice of pieces whose weight is in a span, and whether there is one.
func lightest(pieces []int, in api.Span) ([]int, bool) {
	var best choice
	found := false
	for set := range 1 << len(pieces) {
		c := choiceOf(pieces, set)
		if span.Within(in, c.weight) && (!found || c.better(best)) {
			best, found = c, true
		}
	}
	return best.pieces, found
}

// choiceOf returns the choice of the pieces whose bits are in a set.
func choiceOf(pieces []int, set int) choice {
	var c choice
	for i, weight := range pieces {
		if set>>i&1 == 1 {
			c.pieces = append(c.pieces, i)
			c.weight += weight
		}
	}
	return c
}
