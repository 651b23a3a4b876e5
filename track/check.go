package track

import (
	"kreisel/api"
	"kreisel/span"
)

// Check returns ErrTrack unless a track is valid (P1.1).
func Check(t api.Track) api.Errno {
	n := len(t.Stretches)
	if !span.Within(api.Span{Lo: 1, Hi: api.MaxStretches}, n) || right(t.Stretches) < n {
		return api.ErrTrack
	}
	return api.OK
}

// right returns how many stretches are valid, up to the first one that is not.
func right(list []api.Stretch) int {
	count := 0
stretches:
	for i := range len(list) {
		s := list[i]
		if i > 0 && list[i-1].Id >= s.Id || !sided(s) {
			break stretches
		}
		for _, l := range limits(s) {
			if !span.Fits(l.Told, l.In) {
				break stretches
			}
		}
		count++
	}
	return count
}

// limits returns what is told of any stretch, straight or not, and where it has to be.
func limits(s api.Stretch) [4]span.Limit {
	return [...]span.Limit{
		{Told: span.One(s.Id), In: span.UpTo(api.MaxId)},
		{Told: s.Long, In: api.Span{Lo: 1, Hi: api.MaxLong}},
		{Told: s.Fall, In: span.UpTo(api.MaxFall)},
		{Told: span.One(s.Wall), In: span.UpTo(api.MaxWall)},
	}
}

// sided tells whether the radius of a stretch is one for its side.
func sided(s api.Stretch) bool {
	switch s.Side {
	case api.SideNone:
		return s.Radius == api.Span{}
	case api.SideLeft, api.SideRight:
		return span.Fits(s.Radius, api.Span{Lo: api.MinRadius, Hi: api.MaxRadius})
	}
	return false
}

// stands tells whether a spot is valid on a valid track.
func stands(t api.Track, s api.Spot) bool {
	if !span.Within(span.UpTo(len(t.Stretches)-1), s.Stretch) {
		return false
	}
	return span.Fits(s.Off, span.UpTo(t.Stretches[s.Stretch].Long.Lo-1))
}

// agreed tells whether a list is one of measures of a valid track.
func agreed(t api.Track, list []api.Measure) bool {
	if len(list) > api.MaxMeasures {
		return false
	}
	marks := span.UpTo(len(t.Stretches))
	for _, m := range list {
		if !told(m.Kind) || !span.Within(marks, m.From, m.To) || m.From >= m.To {
			return false
		}
		if !span.Fits(m.Value, span.UpTo(api.MaxRun)) {
			return false
		}
	}
	return true
}

// told tells whether measures are of a kind.
func told(number uint8) bool {
	for _, k := range kinds() {
		if k.number == number {
			return true
		}
	}
	return false
}
