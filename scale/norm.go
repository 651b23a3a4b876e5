package scale

import (
	"math"

	"kreisel/api"
	"kreisel/span"
)

// An inspection is what is told of valid gear: its totals and its hardness.
type inspection struct {
	api.Gear
	totals []api.Span
	hard   api.Span
}

// A condition is one of those that a norm asks.
type condition struct {
	known func(i inspection, n api.Norm) uint8
}

// conditions returns all conditions of norms, by their numbers.
func conditions() [api.Norms]condition {
	return [...]condition{
		api.NormTotal: {inspection.knownTotal},
		api.NormAdded: {inspection.knownAdded},
		api.NormWarm:  {inspection.knownWarm},
		api.NormHard:  {inspection.knownHard},
		api.NormStamp: {inspection.knownStamp},
	}
}

func (i inspection) knownTotal(n api.Norm) uint8 { return span.Known(n.Total, i.totals...) }

func (i inspection) knownAdded(n api.Norm) uint8 {
	return span.Known(span.UpTo(n.Added), span.One(i.Added))
}

func (i inspection) knownHard(n api.Norm) uint8 { return span.Known(n.Hard, i.hard) }

func (i inspection) knownStamp(n api.Norm) uint8 {
	if n.Stamp && !i.Stamp {
		return api.KnownNo
	}
	return api.KnownYes
}

// knownWarm is the least of what is known of each runner: they can all be as warm as they may be at most, or at least, in one truth, so that it is no, if it is no for one of them.
func (i inspection) knownWarm(n api.Norm) uint8 {
	least := uint8(api.KnownYes)
	for _, s := range warmer(i.Gear) {
		least = min(least, span.Known(api.Span{Lo: math.MinInt, Hi: n.Warm}, s))
	}
	return least
}

// warmer returns by how much warmer than the base the runners may be.
func warmer(g api.Gear) []api.Span {
	var list []api.Span
	for _, r := range g.Runners {
		list = append(list, span.Plus(span.One(r-g.Base), span.Around(2*g.Jitter)))
	}
	return list
}

// hardness returns each hardness that all strokes may have shown; its Lo is above its Hi if there is none.
func hardness(g api.Gear) api.Span {
	all := span.UpTo(api.MaxHard)
	for _, s := range g.Strokes {
		all = span.Both(all, span.Plus(span.One(s), span.Around(g.Spread)))
	}
	return all
}
