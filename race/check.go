package race

import (
	"slices"

	"kreisel/api"
	"kreisel/beam"
	"kreisel/span"
)

// A contest is a valid race at work, with the times of all descents, heat by heat.
type contest struct {
	api.Race
	times [][]api.Span
}

// hold returns beam.Check's error of the line, then ErrRace unless a race is valid; and the race at work.
func hold(r api.Race) (contest, api.Errno) {
	if e := beam.Check(r.Line); e != api.OK {
		return contest{}, e
	}
	if !entered(r) {
		return contest{}, api.ErrRace
	}
	times, ok := timesOf(r)
	if !ok {
		return contest{}, api.ErrRace
	}
	return contest{r, times}, api.OK
}

// has tells whether they are a heat and a sled.
func (c contest) has(heat, sled int) bool {
	return span.Within(span.Indices(c.Heats), heat) && span.Within(span.Indices(c.Sleds), sled)
}

// entered tells whether all of a race is valid, but for its heats.
func entered(r api.Race) bool {
	return span.Within(api.Span{Lo: 1, Hi: api.MaxStarters}, len(r.Sleds)) &&
		span.Within(span.UpTo(api.MaxId), r.Sleds...) && slices.IsSorted(r.Sleds) && differ(r.Sleds) &&
		len(r.Draw) == len(r.Sleds) && span.Within(span.Indices(r.Sleds), r.Draw...) && differ(r.Draw) &&
		span.Within(span.UpTo(api.MaxStarters), r.Turn)
}

// differ tells whether no two numbers are the same.
func differ(numbers []int) bool {
	return len(slices.Compact(slices.Sorted(slices.Values(numbers)))) == len(numbers)
}

// timesOf returns the times of all descents, and whether all heats are valid.
func timesOf(r api.Race) ([][]api.Span, bool) {
	if !span.Within(api.Span{Lo: 1, Hi: api.MaxHeats}, len(r.Heats)) {
		return nil, false
	}
	var all [][]api.Span
	for _, heat := range r.Heats {
		if len(heat) != len(r.Sleds) {
			return nil, false
		}
		var times []api.Span
		for _, d := range heat {
			time, ok := timeOf(r.Line, d)
			if !ok {
				return nil, false
			}
			times = append(times, time)
		}
		all = append(all, times)
	}
	return all, true
}

// A kind is one of descents: whether a descent is of it, without anything else, and then which time it has, and whether this is valid.
type kind struct {
	is   func(d api.Descent) bool
	time func(l api.Line, d api.Descent) (api.Span, bool)
}

// kinds returns all kinds of descents, of which each one is at most of one.
func kinds() [3]kind {
	return [...]kind{
		{
			func(d api.Descent) bool { return d.Out && !d.Fixed && d.Time == api.Span{} && unridden(d.Ride) },
			func(api.Line, api.Descent) (api.Span, bool) { return untimed(), true },
		},
		{
			func(d api.Descent) bool { return d.Fixed && !d.Out && unridden(d.Ride) },
			func(_ api.Line, d api.Descent) (api.Span, bool) { return d.Time, fixable(d.Time) },
		},
		{
			func(d api.Descent) bool { return !d.Fixed && !d.Out && d.Time == api.Span{} },
			ran,
		},
	}
}

// timeOf returns the time of a descent, and whether it is valid.
func timeOf(l api.Line, d api.Descent) (api.Span, bool) {
	for _, k := range kinds() {
		if k.is(d) {
			return k.time(l, d)
		}
	}
	return api.Span{}, false
}

// untimed stands for the time of a descent that has none: each other one is 1 at least, as the finish is surely behind the start.
func untimed() api.Span { return api.Span{} }

// unridden tells whether a ride has nothing.
func unridden(r api.Ride) bool { return r.Start == 0 && r.Now == 0 && len(r.Signals) == 0 }

// fixable tells whether a time may be that of a Fixed descent.
func fixable(time api.Span) bool { return span.Fits(time, api.Span{Lo: 1, Hi: api.MaxTime}) }

// ran returns the time of a descent that is a ride, and whether it has one.
func ran(l api.Line, d api.Descent) (api.Span, bool) {
	time, e := beam.Ran(l, d.Ride)
	return time, e == api.OK
}
