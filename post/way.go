package post

import (
	"kreisel/api"
	"kreisel/span"
	"kreisel/track"
)

// An end of a stretch is at a mark.
type end struct{ mark func(stretch int) int }

// ends returns both ends of a stretch.
func ends() [2]end {
	return [...]end{
		{func(stretch int) int { return stretch }},
		{func(stretch int) int { return stretch + 1 }},
	}
}

// farthest returns the greatest distance of two things, if ways are by how much one is behind the other one, or before it, where they are below 0.
func farthest(ways ...api.Span) int {
	far := 0
	for _, s := range ways {
		far = max(far, -s.Lo, s.Hi)
	}
	return far
}

// way returns by how much a mark is behind what stands on a spot.
func (w watch) way(s api.Spot, mark int) api.Span {
	if mark > s.Stretch {
		long, _, _ := track.Drop(w.Track, s.Stretch, mark)
		return span.Minus(long, s.Off)
	}
	long, _, _ := track.Drop(w.Track, mark, s.Stretch)
	return span.Minus(api.Span{}, span.Plus(long, s.Off))
}

// far returns how far a post is from a stretch: of all places of this one, an end is the farthest.
func (w watch) far(post, stretch int) int {
	var ways []api.Span
	for _, e := range ends() {
		ways = append(ways, w.way(w.Posts[post].Spot, e.mark(stretch)))
	}
	return farthest(ways...)
}

// time returns the time of a post to a stretch.
func (w watch) time(post, stretch int) int {
	p := w.Posts[post]
	return p.Delay + (p.Pace*w.far(post, stretch)+999)/1000
}
