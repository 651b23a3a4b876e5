package turns

import (
	"kreisel/api"
	"kreisel/beam"
	"kreisel/list"
	"kreisel/span"
)

// went returns what is known of a ride having gone well for a class.
func (c camp) went(r api.Ride, class int) uint8 {
	ran, e := beam.Ran(c.Line, r)
	if e != api.OK {
		return api.KnownNo
	}
	passed, _ := beam.Clear(c.Line, r)
	return min(passed, span.Known(span.UpTo(c.Permits[class-1].Time), ran))
}

// well returns how many rides of an athlete surely went well for a class, and how many may have.
func (c camp) well(athlete, class int) (sure, may int) {
	rides := func(known uint8) int {
		return list.Count(c.Athletes[athlete].Rides, func(r api.Ride) bool { return c.went(r, class) >= known })
	}
	return rides(api.KnownYes), rides(api.KnownOpen)
}

// licence returns whether an athlete has the licence for a class.
func (c camp) licence(athlete, class int) uint8 {
	sure, may := c.well(athlete, class)
	permit := c.Permits[class-1]
	switch {
	case c.Athletes[athlete].Age < permit.Age || may < permit.Runs:
		return api.KnownNo
	case sure >= permit.Runs:
		return api.KnownYes
	}
	return api.KnownOpen
}
