package jury

import (
	"slices"

	"kreisel/api"
	"kreisel/list"
	"kreisel/span"
)

// A kind is one of faults: which Where it may have, and by which passes of a trip a sled comes in and out.
type kind struct {
	wheres  func(l api.Line) api.Span
	in, out func(t trip, where int) pass
}

// kinds returns all kinds of faults, by their numbers.
func kinds() [api.FaultBeam + 1]kind {
	nowhere := func(api.Line) api.Span { return span.One(0) }
	upToFinish := func(l api.Line) api.Span { return span.UpTo(l.Finish) }
	atStart := func(t trip, _ int) pass { return t[0] }
	atFinish := func(t trip, _ int) pass { return t.finish() }
	before := func(t trip, where int) pass { return t[where] }
	at := func(t trip, where int) pass { return t[where+1] }
	return [...]kind{
		api.FaultWind: {nowhere, atStart, atFinish},
		api.FaultIce:  {upToFinish, before, at},
		api.FaultBeam: {upToFinish, at, at},
	}
}

// touched returns what is known of a fault having touched the sled of a trip: it came in, not after the end of the fault, and it came out not before its beginning. This is also the rule of beams, as there both are the same.
func (t trip) touched(f api.Fault) uint8 {
	k := kinds()[f.Kind]
	in, out := k.in(t, f.Where), k.out(t, f.Where)
	return min(
		in.known,
		span.Known(span.UpTo(f.To), in.times),
		span.Known(api.Span{Lo: f.From, Hi: api.MaxClock}, out.leaving()),
	)
}

// mayTouch tells whether one of some faults may have touched the sled of a trip.
func (t trip) mayTouch(faults ...api.Fault) bool {
	return slices.ContainsFunc(faults, func(f api.Fault) bool { return t.touched(f) != api.KnownNo })
}

// hit returns for each heat all sleds whose descents one of some faults may touch, in increasing order.
func (c court) hit(faults ...api.Fault) [][]int {
	trips := map[place]trip{}
	for at, ride := range c.rides() {
		trips[at] = c.trip(ride)
	}
	for at, t := range trips {
		if !t.mayTouch(faults...) {
			delete(trips, at)
		}
	}
	var all [][]int
	for heat := range len(c.Race.Heats) {
		all = append(all, list.Pick(c.Race.Sleds, func(sled, _ int) bool {
			_, ok := trips[place{heat, sled}]
			return ok
		}))
	}
	return all
}
