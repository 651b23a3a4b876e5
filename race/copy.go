package race

import (
	"slices"

	"kreisel/api"
)

// again returns a race that is the same and shares no memory with it.
func again(r api.Race) api.Race {
	r.Line = lineAgain(r.Line)
	r.Sleds, r.Draw, r.Heats = slices.Clone(r.Sleds), slices.Clone(r.Draw), slices.Clone(r.Heats)
	for heat, descents := range r.Heats {
		r.Heats[heat] = slices.Clone(descents)
		for sled, d := range descents {
			r.Heats[heat][sled].Ride.Signals = slices.Clone(d.Ride.Signals)
		}
	}
	return r
}

// lineAgain returns a line that is the same and shares no memory with it.
func lineAgain(l api.Line) api.Line {
	l.Track.Stretches, l.Clocks, l.Beams = slices.Clone(l.Track.Stretches), slices.Clone(l.Clocks), slices.Clone(l.Beams)
	for i, c := range l.Clocks {
		l.Clocks[i].Syncs = slices.Clone(c.Syncs)
	}
	return l
}
