package scale

import (
	"kreisel/api"
	"kreisel/list"
	"kreisel/set"
	"kreisel/span"
)

// A choice is indices of pieces, in increasing order, and what they weigh.
type choice struct {
	pieces []int
	weight int
}

// better tells whether a choice comes before another one: it is lighter, or as light and of fewer pieces, or of as many and of earlier ones.
func (c choice) better(than choice) bool {
	if c.weight != than.weight {
		return c.weight < than.weight
	}
	return list.Fewer(c.pieces, than.pieces)
}

// lightest returns the best choice of pieces whose weight is in a span, and whether there is one.
func lightest(pieces []int, in api.Span) ([]int, bool) {
	var best choice
	found := false
	for taken := range 1 << len(pieces) {
		c := choiceOf(pieces, taken)
		if span.Within(in, c.weight) && (!found || c.better(best)) {
			best, found = c, true
		}
	}
	return best.pieces, found
}

// choiceOf returns the choice of the pieces of a set.
func choiceOf(pieces []int, taken int) choice {
	c := choice{pieces: set.Members(taken)}
	for _, i := range c.pieces {
		c.weight += pieces[i]
	}
	return c
}
