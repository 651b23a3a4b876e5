package ice

import (
	"iter"
	"slices"

	"kreisel/api"
	"kreisel/span"
)

// A coat is a valid cover at work.
type coat struct{ api.Cover }

// A truth is one of the two truths at the ends of what may be so: which end of what ice is made of (Thick, Layer) is true in it, and which one of what takes it away (Melt, Wear).
type truth struct {
	coat
	made, taken func(s api.Span) int
}

// Where each truth is among those that truths yields.
const (
	atWorst = iota
	atBest
	truthCount
)

// truths yields the truth in which all ice is the thinnest, and the one in which it is the thickest. More of what it is made of never makes ice thinner, nor does less of what takes it away, so in all other truths it is between these two, on all stretches.
func (c coat) truths() iter.Seq2[int, truth] {
	return func(yield func(int, truth) bool) {
		if yield(atWorst, c.worst()) {
			yield(atBest, truth{c, span.High, span.Low})
		}
	}
}

// worst returns the truth in which all ice is the thinnest.
func (c coat) worst() truth { return truth{c, span.Low, span.High} }

// A rule is how thick ice has to be, and in which hours.
type rule struct {
	asked func(h api.Hour) bool
	thick func(c api.Cover) int
}

// rules returns all that makes ice too thin, if it is not kept.
func rules() [2]rule {
	return [...]rule{
		{func(h api.Hour) bool { return h.Runs > 0 }, func(c api.Cover) int { return c.Limit }},
		{func(api.Hour) bool { return true }, func(c api.Cover) int { return c.Base }},
	}
}

// least returns how thick ice has to be in an hour.
func (c coat) least(hour int) int {
	most := 0
	for _, r := range rules() {
		if r.asked(c.Hours[hour]) {
			most = greatest(most, r.thick(c.Cover))
		}
	}
	return most
}

// hands returns how many stretches can be sprayed in an hour.
func (c coat) hands(hour int) int {
	if !c.Hours[hour].Cold {
		return 0
	}
	return c.Hours[hour].Crew
}

// loss returns what a stretch loses in an hour.
func (t truth) loss(stretch, hour int) int {
	h := t.Hours[hour]
	return t.Beds[stretch].Sun*t.taken(h.Melt) + h.Runs*t.taken(t.Wear)
}

// before returns the ice of a stretch at the beginning of an hour, or after all hours.
func (t truth) before(plan [][]int, stretch, hour int) int {
	ice := t.made(t.Beds[stretch].Thick)
	for h := range hour {
		ice = greatest(0, ice-t.loss(stretch, h))
		if slices.Contains(plan[h], stretch) {
			ice += t.made(t.Layer)
		}
	}
	return ice
}

// thin returns all stretches that are too thin in an hour.
func (t truth) thin(plan [][]int, hour int) []int {
	var list []int
	for stretch := range len(t.Beds) {
		if t.before(plan, stretch, hour)-t.loss(stretch, hour) < t.least(hour) {
			list = append(list, stretch)
		}
	}
	return list
}

// thinPairs returns all pairs of an hour and a stretch that is too thin in it.
func (t truth) thinPairs(plan [][]int) [][2]int {
	var pairs [][2]int
	for hour := range len(t.Hours) {
		for _, stretch := range t.thin(plan, hour) {
			pairs = append(pairs, [2]int{hour, stretch})
		}
	}
	return pairs
}

// greatest returns the greatest of several numbers.
func greatest(number int, more ...int) int {
	for _, n := range more {
		if n > number {
			number = n
		}
	}
	return number
}
