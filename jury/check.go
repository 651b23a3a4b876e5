package jury

import (
	"slices"

	"kreisel/api"
	"kreisel/race"
	"kreisel/span"
)

// A court is a valid jury at work.
type court struct{ api.Jury }

// hold returns race.Check's error of the race, then ErrJury unless a jury is valid; and the jury at work.
func hold(j api.Jury) (court, api.Errno) {
	if e := race.Check(j.Race); e != api.OK {
		return court{}, e
	}
	c := court{j}
	if !c.bounded() || !c.founded() || c.right() < len(c.Protests) {
		return court{}, api.ErrJury
	}
	return c, api.OK
}

// day returns all times.
func day() api.Span { return span.UpTo(api.MaxClock) }

// has tells whether they are a heat and a sled.
func (c court) has(heat, sled int) bool {
	return span.Within(span.Indices(c.Race.Heats), heat) && span.Within(span.Indices(c.Race.Sleds), sled)
}

// bounded tells whether minutes and fee are valid, and no list is too long.
func (c court) bounded() bool {
	return span.Within(span.UpTo(api.MaxMinutes), c.Minutes) && span.Within(span.UpTo(api.MaxFee), c.Fee) &&
		len(c.Faults) <= api.MaxFaults && len(c.Protests) <= api.MaxProtests
}

// founded tells whether all faults are valid.
func (c court) founded() bool {
	return !slices.ContainsFunc(c.Faults, func(f api.Fault) bool {
		return !span.Within(api.Span{Lo: api.FaultWind, Hi: api.FaultBeam}, int(f.Kind)) || !span.Valid(
			span.Limit{Told: span.One(f.Where), In: kinds()[f.Kind].wheres(c.Race.Line)},
			span.Limit{Told: api.Span{Lo: f.From, Hi: f.To}, In: day()},
		)
	})
}

// right returns how many protests are valid, and have an Id above that of the one before, up to the first one that does not; all faults have to be valid.
func (c court) right() int {
	count := 0
protests:
	for i, p := range c.Protests {
		for _, l := range c.limits(p) {
			if !span.Fits(l.Told, l.In) {
				break protests
			}
		}
		d := c.Race.Heats[p.Heat][p.Sled]
		if !ridden(d) || p.At < d.Ride.Start || i > 0 && c.Protests[i-1].Id >= p.Id {
			break protests
		}
		count++
	}
	return count
}

// limits returns what is told of any protest, and where it has to be.
func (c court) limits(p api.Protest) [5]span.Limit {
	return [...]span.Limit{
		{Told: span.One(p.Id), In: span.UpTo(api.MaxId)},
		{Told: span.One(p.Sled), In: span.Indices(c.Race.Sleds)},
		{Told: span.One(p.Heat), In: span.Indices(c.Race.Heats)},
		{Told: span.One(p.Fault), In: span.Indices(c.Faults)},
		{Told: span.One(p.At), In: day()},
	}
}

// ridden tells whether a descent of a valid race is a ride.
func ridden(d api.Descent) bool { return !d.Out && !d.Fixed }
