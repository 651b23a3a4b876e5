package turns

import (
	"slices"

	"kreisel/again"
	"kreisel/api"
)

// copied returns a training that is the same and shares no memory with it.
func copied(t api.Training) api.Training {
	t.Line = again.Line(t.Line)
	t.Nations, t.Gones, t.Athletes = slices.Clone(t.Nations), slices.Clone(t.Gones), slices.Clone(t.Athletes)
	for i, a := range t.Athletes {
		t.Athletes[i].Rides = slices.Clone(a.Rides)
		for k, r := range a.Rides {
			t.Athletes[i].Rides[k] = again.Ride(r)
		}
	}
	return t
}
