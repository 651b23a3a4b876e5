package track

import (
	"iter"

	"kreisel/api"
	"kreisel/span"
)

// A kind is what measures of a kind tell of: which span of a stretch.
type kind struct {
	number uint8
	of     func(s *api.Stretch) *api.Span
}

// Where each kind is among all kinds.
const (
	byLong = iota
	byFall
	kindCount
)

// kinds returns all kinds of measures.
func kinds() [kindCount]kind {
	return [...]kind{
		byLong: {api.MeasureLong, func(s *api.Stretch) *api.Span { return &s.Long }},
		byFall: {api.MeasureFall, func(s *api.Stretch) *api.Span { return &s.Fall }},
	}
}

// A course is a valid track at work.
type course struct{ api.Track }

// marks yields all marks, with the least and the greatest place of each one.
func (c course) marks() iter.Seq2[int, api.Span] {
	return func(yield func(int, api.Span) bool) {
		at := api.Span{}
		for i := range len(c.Stretches) {
			if !yield(i, at) {
				return
			}
			at = span.Plus(at, c.Stretches[i].Long)
		}
		yield(len(c.Stretches), at)
	}
}

// places returns the least and the greatest place of each mark.
func (c course) places() []api.Span {
	var list []api.Span
	for _, at := range c.marks() {
		list = append(list, at)
	}
	return list
}

// between returns what all stretches from one mark to a later one have together.
func (c course) between(k kind, from, to int) api.Span {
	all := api.Span{}
	for i := range to - from {
		all = span.Plus(all, *k.of(&c.Stretches[from+i]))
	}
	return all
}

// way returns by how much a mark is behind another one, which may be the later one.
func (c course) way(from, to int) api.Span {
	long := kinds()[byLong]
	if from > to {
		return span.Minus(api.Span{}, c.between(long, to, from))
	}
	return c.between(long, from, to)
}
