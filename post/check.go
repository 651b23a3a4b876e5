package post

import (
	"slices"

	"kreisel/api"
	"kreisel/span"
	"kreisel/track"
)

// A watch is a valid guard at work.
type watch struct{ api.Guard }

// hold returns track.Check's error of the track, then ErrGuard unless a guard is valid; and the guard at work.
func hold(g api.Guard) (watch, api.Errno) {
	if e := track.Check(g.Track); e != api.OK {
		return watch{}, e
	}
	w := watch{g}
	if !w.posted() || !w.needed() || !w.stands(w.Tower) || !span.Within(span.UpTo(api.MaxRadios), w.Radio) {
		return watch{}, api.ErrGuard
	}
	return w, api.OK
}

// posted tells whether all posts are valid, by Id, and not too many.
func (w watch) posted() bool {
	if len(w.Posts) > api.MaxPosts {
		return false
	}
	var ids []int
	for _, p := range w.Posts {
		if !helps(p.Kind) || !w.stands(p.Spot) ||
			!span.Within(span.UpTo(api.MaxSecs), p.Delay) || !span.Within(api.Span{Lo: 1, Hi: api.MaxPace}, p.Pace) {
			return false
		}
		ids = append(ids, p.Id)
	}
	return span.Rising(span.UpTo(api.MaxId), ids...)
}

// needed tells whether all needs are valid, and not too many.
func (w watch) needed() bool {
	return len(w.Needs) <= api.MaxNeeds && !slices.ContainsFunc(w.Needs, func(n api.Need) bool {
		return !helps(n.Kind) || !span.Within(span.Indices(w.Track.Stretches), n.Stretch) || !span.Within(span.UpTo(api.MaxSecs), n.Seconds)
	})
}

// helps tells whether posts are of a kind.
func helps(kind uint8) bool {
	return span.Within(api.Span{Lo: api.PostDoctor, Hi: api.PostBrakeman}, int(kind))
}

// stands tells whether a spot is valid on the track.
func (w watch) stands(s api.Spot) bool {
	_, e := track.At(w.Track, s)
	return e == api.OK
}
