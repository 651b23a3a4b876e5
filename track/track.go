// Package track is layer 1: a run of ice as it was surveyed. Lengths, falls and radii are known as spans; measures narrow them, or contradict each other.
package track

import (
	"slices"

	"kreisel/api"
	"kreisel/list"
	"kreisel/span"
)

// Marks returns all marks (P1.1).
func Marks(t api.Track) ([]api.Span, api.Errno) {
	if e := Check(t); e != api.OK {
		return nil, e
	}
	return course{t}.places(), api.OK
}

// Drop returns how long the run is between two marks, and by how much it falls (P1.1).
func Drop(t api.Track, from, to int) (long, fall api.Span, e api.Errno) {
	if e := Check(t); e != api.OK {
		return api.Span{}, api.Span{}, e
	}
	if !span.Within(span.UpTo(len(t.Stretches)), from, to) || from > to {
		return api.Span{}, api.Span{}, api.ErrArg
	}
	k := kinds()
	c := course{t}
	return c.between(k[byLong], from, to), c.between(k[byFall], from, to), api.OK
}

// Place returns where a place may be (P1.2).
func Place(t api.Track, at int) ([]int, api.Errno) {
	if e := Check(t); e != api.OK {
		return nil, e
	}
	if !span.Within(span.UpTo(api.MaxRun), at) {
		return nil, api.ErrArg
	}
	marks := course{t}.places()
	// Behind the run is what is not before the last mark; there is no next one.
	return list.Pick(marks, func(i int, mark api.Span) bool {
		return mark.Lo <= at && (i+1 == len(marks) || at < marks[i+1].Hi)
	}), api.OK
}

// Slope returns how steep a stretch is (P1.3).
func Slope(t api.Track, i int) (api.Span, api.Errno) {
	if e := Check(t); e != api.OK {
		return api.Span{}, e
	}
	if !span.Within(span.UpTo(len(t.Stretches)-1), i) {
		return api.Span{}, api.ErrArg
	}
	s := t.Stretches[i]
	least := s.Fall.Lo * tenMetres / s.Long.Hi
	most := (s.Fall.Hi*tenMetres + s.Long.Lo - 1) / s.Long.Lo
	return api.Span{Lo: least, Hi: most}, api.OK
}

// tenMetres is what slopes are told on, in centimetres.
const tenMetres = 1000

// Steepest returns which stretches may be the steepest ones (P1.3).
func Steepest(t api.Track) ([]int, api.Errno) {
	if e := Check(t); e != api.OK {
		return nil, e
	}
	return list.Pick(t.Stretches, func(i int, s api.Stretch) bool {
		// A stretch is steepest where it falls most on the least length, and all others the other way round.
		for k, other := range t.Stretches {
			if k != i && s.Fall.Hi*other.Long.Hi < other.Fall.Lo*s.Long.Lo {
				return false
			}
		}
		return true
	}), api.OK
}

// At returns where a spot may be (P1.5).
func At(t api.Track, s api.Spot) (api.Span, api.Errno) {
	// The start is a valid spot of each track, so that errors are just those of s.
	start := api.Spot{}
	return Apart(t, start, s)
}

// Apart returns how far one spot is behind another one (P1.5).
func Apart(t api.Track, a, b api.Spot) (api.Span, api.Errno) {
	if e := Check(t); e != api.OK {
		return api.Span{}, e
	}
	if !stands(t, a) || !stands(t, b) {
		return api.Span{}, api.ErrSpot
	}
	return span.Plus(course{t}.way(a.Stretch, b.Stretch), span.Minus(b.Off, a.Off)), api.OK
}

// Join returns two runs as one (P1.6).
func Join(a, b api.Track) (api.Track, api.Errno) {
	for _, t := range [...]api.Track{a, b} {
		if e := Check(t); e != api.OK {
			return api.Track{}, e
		}
	}
	if len(a.Stretches)+len(b.Stretches) > api.MaxStretches {
		return api.Track{}, api.ErrFull
	}
	if a.Stretches[len(a.Stretches)-1].Id >= b.Stretches[0].Id {
		return api.Track{}, api.ErrBad
	}
	return api.Track{Stretches: slices.Concat(a.Stretches, b.Stretches)}, api.OK
}
