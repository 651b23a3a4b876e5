// Package again contains how layers copy what they return, so that no result shares memory with an argument.
package again

import (
	"slices"

	"kreisel/api"
)

// Line returns a line that is the same and shares no memory with it.
func Line(l api.Line) api.Line {
	l.Track.Stretches, l.Clocks, l.Beams = slices.Clone(l.Track.Stretches), slices.Clone(l.Clocks), slices.Clone(l.Beams)
	for i, c := range l.Clocks {
		l.Clocks[i].Syncs = slices.Clone(c.Syncs)
	}
	return l
}

// Ride returns a ride that is the same and shares no memory with it.
func Ride(r api.Ride) api.Ride {
	r.Signals = slices.Clone(r.Signals)
	return r
}
