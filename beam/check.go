package beam

import (
	"cmp"

	"kreisel/api"
	"kreisel/span"
	"kreisel/track"
)

// A line is a line at work.
type line struct{ api.Line }

// day returns all times.
func day() api.Span { return span.UpTo(api.MaxClock) }

// A demand is one of those that a line has to meet.
type demand struct {
	met func(l line) bool
}

// demands returns all that is asked of a line on a valid track, each one asked only where those before it are met.
func demands() [3]demand {
	return [...]demand{{line.bounded}, {line.timed}, {line.placed}}
}

// bounded tells whether all numbers of a line are valid, and its lists are not too long.
func (l line) bounded() bool {
	return span.Valid(
		span.Limit{Told: span.One(l.Fast), In: api.Span{Lo: 1, Hi: api.MaxFast}},
		span.Limit{Told: span.One(len(l.Clocks)), In: api.Span{Lo: 1, Hi: api.MaxClocks}},
		span.Limit{Told: span.One(len(l.Beams)), In: api.Span{Lo: 1, Hi: api.MaxBeams}},
		span.Limit{Told: span.One(l.Finish), In: span.Indices(l.Beams)},
		span.Limit{Told: span.One(l.Fakes), In: span.UpTo(api.MaxFakes)},
		span.Limit{Told: span.One(l.Misses), In: span.UpTo(api.MaxMisses)},
	)
}

// timed tells whether all clocks are valid.
func (l line) timed() bool { return right(l.Clocks) == len(l.Clocks) }

// right returns how many clocks are valid, up to the first one that is not.
func right(list []api.Clock) int {
	count := 0
clocks:
	for _, c := range list {
		if !compared(c) {
			break clocks
		}
		for i, s := range c.Syncs {
			for _, before := range c.Syncs[:i] {
				if drifts(c, s.At-before.At) < max(s.Ahead.Lo-before.Ahead.Hi, before.Ahead.Lo-s.Ahead.Hi) {
					break clocks
				}
			}
		}
		count++
	}
	return count
}

// compared tells whether all of a clock is valid, but for syncs that contradict each other.
func compared(c api.Clock) bool {
	if !span.Within(span.UpTo(api.MaxDrift), c.Drift) || !span.Within(api.Span{Lo: 1, Hi: api.MaxSyncs}, len(c.Syncs)) {
		return false
	}
	for i, s := range c.Syncs {
		if !span.Within(day(), s.At) || !span.Fits(s.Ahead, span.Around(api.MaxAhead)) || i > 0 && c.Syncs[i-1].At >= s.At {
			return false
		}
	}
	return true
}

// placed tells whether all beams have a clock, and each one is surely behind the one before.
func (l line) placed() bool {
	for i := range len(l.Beams) {
		way, e := l.way(i)
		if e != api.OK || way.Lo < 1 || !span.Within(span.Indices(l.Clocks), l.Beams[i].Clock) {
			return false
		}
	}
	return true
}

// way returns by how much a beam is behind the one before, and the first one behind the start.
func (l line) way(beam int) (api.Span, api.Errno) {
	if beam == 0 {
		return track.At(l.Track, l.Beams[0].Spot)
	}
	return track.Apart(l.Track, l.Beams[beam-1].Spot, l.Beams[beam].Spot)
}

// tells tells whether a signal may be one of a valid line.
func (l line) tells(s api.Signal) bool {
	return span.Within(span.Indices(l.Beams), s.Beam) && span.Within(day(), s.Read)
}

// rides tells whether a ride is valid on a valid line.
func (l line) rides(r api.Ride) bool {
	if !span.Within(day(), r.Start, r.Now) || r.Start > r.Now || len(r.Signals) > api.MaxSignals {
		return false
	}
	for i, s := range r.Signals {
		if !l.tells(s) || i > 0 && order(r.Signals[i-1], s) >= 0 {
			return false
		}
	}
	return true
}

// order compares two signals by their beams, then by what was read.
func order(a, b api.Signal) int {
	return cmp.Or(cmp.Compare(a.Beam, b.Beam), cmp.Compare(a.Read, b.Read))
}
