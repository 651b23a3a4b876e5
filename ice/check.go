package ice

import (
	"kreisel/api"
	"kreisel/span"
	"kreisel/track"
)

// Check returns track.Check's error, and then ErrIce unless a cover is valid (P2.1).
func Check(c api.Cover) api.Errno {
	if e := track.Check(c.Track); e != api.OK {
		return e
	}
	if !bedded(c) || !timed(c.Hours) || !ruled(c) {
		return api.ErrIce
	}
	return api.OK
}

// bedded tells whether there is a valid bed on each stretch.
func bedded(c api.Cover) bool {
	if len(c.Beds) != len(c.Track.Stretches) {
		return false
	}
	for _, b := range c.Beds {
		if !span.Fits(b.Thick, span.UpTo(api.MaxThick)) || !span.Within(span.UpTo(api.MaxSun), b.Sun) {
			return false
		}
	}
	return true
}

// timed tells whether a list is one of hours of a valid cover.
func timed(list []api.Hour) bool {
	if !span.Within(api.Span{Lo: 1, Hi: api.MaxHours}, len(list)) {
		return false
	}
	for _, h := range list {
		if !span.Fits(h.Melt, span.UpTo(api.MaxMelt)) {
			return false
		}
		if !span.Within(span.UpTo(api.MaxRuns), h.Runs) || !span.Within(span.UpTo(api.MaxStretches), h.Crew) {
			return false
		}
	}
	return true
}

// ruled tells whether what a cover tells of all stretches and hours is valid.
func ruled(c api.Cover) bool {
	return span.Fits(c.Wear, span.UpTo(api.MaxWear)) &&
		span.Fits(c.Layer, api.Span{Lo: 1, Hi: api.MaxLayer}) &&
		span.Within(span.UpTo(api.MaxRate), c.Rate) &&
		span.Within(span.UpTo(api.MaxThick), c.Limit) &&
		span.Within(span.UpTo(c.Limit), c.Base)
}

// checkPlan returns the errors of a cover, and then ErrPlan unless a plan is valid for it.
func checkPlan(c api.Cover, plan [][]int) api.Errno {
	if e := Check(c); e != api.OK {
		return e
	}
	if len(plan) != len(c.Hours) {
		return api.ErrPlan
	}
	for hour, list := range plan {
		if len(list) > (coat{c}).hands(hour) || !span.Rising(span.Indices(c.Beds), list...) {
			return api.ErrPlan
		}
	}
	return api.OK
}
