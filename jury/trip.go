package jury

import (
	"iter"
	"slices"

	"kreisel/api"
	"kreisel/beam"
	"kreisel/span"
)

// A pass is when a sled passed a beam, in the truths in which it did, and whether it did in each one, or just in some. A ride of a race comes to the finish in some truth, so that there is one in which it passed each beam up to it.
type pass struct {
	times api.Span
	known uint8
}

// leaving returns when a sled came out by this pass: as long as it may not have passed, it may still do so at any time.
func (p pass) leaving() api.Span {
	if p.known == api.KnownYes {
		return p.times
	}
	return api.Span{Lo: p.times.Lo, Hi: api.MaxClock}
}

// A trip is when a sled was at the start, and then at each beam up to the finish, so that a section is from the pass of its number to the next one.
type trip []pass

// trip returns the trip of a ride of the race.
func (c court) trip(r api.Ride) trip {
	line := c.Race.Line
	passed, _ := beam.Where(line, r)
	t := trip{{span.One(r.Start), api.KnownYes}}
	for i := range line.Finish + 1 {
		times, _ := beam.Passed(line, r, i)
		known := uint8(api.KnownOpen)
		if slices.Min(passed) > i {
			known = api.KnownYes
		}
		t = append(t, pass{times, known})
	}
	return t
}

// finish returns when the sled passed the finish.
func (t trip) finish() pass { return t[len(t)-1] }

// A place is where a descent is in a race.
type place struct{ heat, sled int }

// rides yields the places of all descents that are rides, heat by heat, and these.
func (c court) rides() iter.Seq2[place, api.Ride] {
	return func(yield func(at place, r api.Ride) bool) {
		for heat, descents := range c.Race.Heats {
			for sled, d := range descents {
				if ridden(d) && !yield(place{heat, sled}, d.Ride) {
					return
				}
			}
		}
	}
}
