package turns

import (
	"iter"
	"slices"

	"kreisel/api"
	"kreisel/list"
)

// A reason is one for which a nation is passed over, after some runs were taken.
type reason struct {
	holds func(c camp, nation int, taken []int) bool
}

// reasons returns all for which a nation is passed over.
func reasons() [2]reason {
	return [...]reason{{camp.sated}, {camp.gone}}
}

// runsOf returns how many of some runs a nation took.
func runsOf(nation int, taken []int) int {
	return list.Count(taken, func(n int) bool { return n == nation })
}

// sated tells whether a nation has as many runs as it wishes.
func (c camp) sated(nation int, taken []int) bool {
	return runsOf(nation, taken) >= c.Nations[nation].Wish
}

// gone tells whether a nation has dropped out.
func (c camp) gone(nation int, taken []int) bool {
	return slices.ContainsFunc(c.Gones, func(g api.Gone) bool { return g.Nation == nation && len(taken) >= g.After })
}

// turns yields the nations of all runs, round by round. A nation that is passed over once stays so, and all others take a run in each round, so that nobody would take one after MaxWish rounds.
func (c camp) turns() iter.Seq[int] {
	return func(yield func(nation int) bool) {
		var taken []int
		for round := range api.MaxWish {
		nations:
			for i := range c.Nations {
				nation := (round + i) % len(c.Nations)
				for _, r := range reasons() {
					if r.holds(c, nation, taken) {
						continue nations
					}
				}
				if len(taken) == c.Total || !yield(nation) {
					return
				}
				taken = append(taken, nation)
			}
		}
	}
}
