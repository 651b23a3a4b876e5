package race

import (
	"slices"

	"kreisel/again"
	"kreisel/api"
)

// copied returns a race that is the same and shares no memory with it.
func copied(r api.Race) api.Race {
	r.Line = again.Line(r.Line)
	r.Sleds, r.Draw, r.Heats = slices.Clone(r.Sleds), slices.Clone(r.Draw), slices.Clone(r.Heats)
	for heat, descents := range r.Heats {
		r.Heats[heat] = slices.Clone(descents)
		for sled, d := range descents {
			r.Heats[heat][sled].Ride = again.Ride(d.Ride)
		}
	}
	return r
}
