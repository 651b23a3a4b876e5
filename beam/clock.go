package beam

import (
	"kreisel/api"
	"kreisel/span"
)

// drifts returns what a clock drifts in a time.
func drifts(c api.Clock, time int) int { return (time*c.Drift + 999999) / 1000000 }

// since returns by how much a clock may be ahead at a time, as far as one sync tells.
func since(c api.Clock, s api.Sync, at int) api.Span {
	return span.Plus(s.Ahead, span.Around(drifts(c, max(at-s.At, s.At-at))))
}

// ahead returns by how much a valid clock may be ahead at a time. There is always a number: two syncs that do not contradict each other leave one at each time, as a clock drifts no more between them than it does from the one to this time, and from there to the other.
func ahead(c api.Clock, at int) api.Span {
	all := since(c, c.Syncs[0], at)
	for _, s := range c.Syncs[1:] {
		all = span.Both(all, since(c, s, at))
	}
	return all
}

// times returns all times of a signal; its Lo is above its Hi if there is none. What a clock drifts grows by one at most from a time to the next one, so that neither the least reading nor the greatest one is ever less at a later time.
func (l line) times(s api.Signal) api.Span {
	clock, end := l.Clocks[l.Beams[s.Beam].Clock], api.MaxClock+1
	from := span.First(0, end, func(at int) bool { return at+ahead(clock, at).Hi >= s.Read })
	behind := span.First(from, end, func(at int) bool { return at+ahead(clock, at).Lo > s.Read })
	return api.Span{Lo: from, Hi: behind - 1}
}

// least returns the least time to a beam of a valid line.
func (l line) least(beam int) int {
	way, _ := l.way(beam)
	return (way.Lo*1000 + l.Fast - 1) / l.Fast
}
