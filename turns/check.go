package turns

import (
	"slices"

	"kreisel/api"
	"kreisel/beam"
	"kreisel/span"
)

// A camp is a valid training at work.
type camp struct{ api.Training }

// hold returns beam.Check's error of the line, then ErrTraining unless a training is valid; and the training at work.
func hold(t api.Training) (camp, api.Errno) {
	if e := beam.Check(t.Line); e != api.OK {
		return camp{}, e
	}
	c := camp{t}
	if !c.bounded() || !c.entered() || !c.left() || !c.trained() || !c.asked() {
		return camp{}, api.ErrTraining
	}
	return c, api.OK
}

// classes returns the span of all classes.
func classes() api.Span { return api.Span{Lo: 1, Hi: api.Classes} }

// bounded tells whether all numbers of a training by itself are valid, and its lists are not too long.
func (c camp) bounded() bool {
	return span.Within(api.Span{Lo: 1, Hi: api.MaxNations}, len(c.Nations)) &&
		span.Within(span.UpTo(api.MaxAthletes), len(c.Athletes)) &&
		span.Within(span.UpTo(api.MaxTotal), c.Total) &&
		span.Within(api.Span{Lo: 1, Hi: api.MaxSeconds}, c.Gap, c.Down, c.Every) &&
		span.Within(api.Span{Lo: 1, Hi: api.MaxSeats}, c.Seats) &&
		span.Within(span.UpTo(api.MaxSeconds), c.Pace)
}

// entered tells whether all nations are valid, and by Id.
func (c camp) entered() bool {
	for i, n := range c.Nations {
		if !span.Within(span.UpTo(api.MaxId), n.Id) || i > 0 && c.Nations[i-1].Id >= n.Id ||
			!span.Within(span.UpTo(api.MaxWish), n.Wish) || !span.Within(api.Span{Lo: 1, Hi: api.MaxWish}, n.Sleds) {
			return false
		}
	}
	return true
}

// left tells whether all Gones are valid, and by their nations.
func (c camp) left() bool {
	for i, g := range c.Gones {
		if !span.Within(span.Indices(c.Nations), g.Nation) || i > 0 && c.Gones[i-1].Nation >= g.Nation ||
			!span.Within(span.UpTo(api.MaxTotal), g.After) {
			return false
		}
	}
	return true
}

// trained tells whether all athletes are valid, and by Id.
func (c camp) trained() bool {
	for i, a := range c.Athletes {
		if !span.Within(span.UpTo(api.MaxId), a.Id) || i > 0 && c.Athletes[i-1].Id >= a.Id ||
			!span.Within(span.Indices(c.Nations), a.Nation) || !span.Within(span.UpTo(api.MaxAge), a.Age) || !c.heard(a.Rides) {
			return false
		}
	}
	return true
}

// heard tells whether rides may be those of an athlete.
func (c camp) heard(rides []api.Ride) bool {
	return len(rides) <= api.MaxRides && !slices.ContainsFunc(rides, func(r api.Ride) bool {
		_, e := beam.Where(c.Line, r)
		return e != api.OK
	})
}

// asked tells whether all permits are valid.
func (c camp) asked() bool {
	for _, p := range c.Permits {
		if !span.Within(span.UpTo(api.MaxAge), p.Age) || !span.Within(span.UpTo(api.MaxWish), p.Runs) ||
			!span.Within(api.Span{Lo: 1, Hi: api.MaxClock}, p.Time) {
			return false
		}
	}
	return true
}
