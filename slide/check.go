package slide

import (
	"kreisel/api"
	"kreisel/span"
	"kreisel/track"
)

// Check returns ErrSled unless a sled is valid (P3.1).
func Check(s api.Sled) api.Errno {
	if right([]api.Sled{s}) < 1 {
		return api.ErrSled
	}
	return api.OK
}

// checkAll returns the errors of a track and of sleds that are to go down it.
func checkAll(t api.Track, list ...api.Sled) api.Errno {
	if e := track.Check(t); e != api.OK {
		return e
	}
	if len(list) > api.MaxSleds {
		return api.ErrMany
	}
	if right(list) < len(list) {
		return api.ErrSled
	}
	return api.OK
}

// right returns how many sleds are valid, up to the first one that is not.
func right(list []api.Sled) int {
	count := 0
sleds:
	for _, s := range list {
		switch s.Class {
		case api.ClassBob, api.ClassSkeleton, api.ClassLuge:
			if !span.Valid(limits(s)...) {
				break sleds
			}
		default:
			break sleds
		}
		count++
	}
	return count
}

// limits returns all spans of a sled, and where they have to be.
func limits(s api.Sled) []span.Limit {
	return []span.Limit{
		{Told: s.Start, In: span.UpTo(api.MaxHead)},
		{Told: s.Rub, In: span.UpTo(api.MaxRub)},
		{Told: s.Drag, In: span.UpTo(api.MaxDrag)},
		{Told: s.Weight, In: api.Span{Lo: api.MinMass, Hi: api.MaxMass}},
		{Told: s.Steer, In: span.Around(api.MaxSteer)},
	}
}
