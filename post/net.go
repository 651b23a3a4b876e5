package post

import (
	"iter"
	"slices"

	"kreisel/api"
	"kreisel/list"
	"kreisel/set"
	"kreisel/track"
)

// A net is a guard with all that is the same whichever posts are empty: who hears what stands on a spot, by spots, and who comes in time, by needs.
type net struct {
	watch
	heard  map[api.Spot][]int
	inTime [][]int
}

// net returns the net of a guard.
func (w watch) net() net {
	n := net{watch: w, heard: map[api.Spot][]int{}}
	for whom, who := range w.hears() {
		n.heard[whom] = append(n.heard[whom], who)
	}
	for _, need := range w.Needs {
		n.inTime = append(n.inTime, list.Pick(w.Posts, func(i int, p api.Post) bool {
			return p.Kind == need.Kind && w.time(i, need.Stretch) <= need.Seconds
		}))
	}
	return n
}

// spots returns all spots on which the tower or a post stands, each one once, as whoever stands there is heard by the same posts.
func (w watch) spots() []api.Spot {
	spots := []api.Spot{w.Tower}
	for _, p := range w.Posts {
		if !slices.Contains(spots, p.Spot) {
			spots = append(spots, p.Spot)
		}
	}
	return spots
}

// hears yields who hears whom: each spot with each post that hears what stands there.
func (w watch) hears() iter.Seq2[api.Spot, int] {
	return func(yield func(whom api.Spot, who int) bool) {
		for _, whom := range w.spots() {
			for who, p := range w.Posts {
				apart, _ := track.Apart(w.Track, whom, p.Spot)
				if farthest(apart) <= w.Radio && !yield(whom, who) {
					return
				}
			}
		}
	}
}

// called returns all posts that are called, if just those of a set are manned.
func (n net) called(manned int) []int {
	waiting := map[int]bool{}
	for _, post := range set.Members(manned) {
		waiting[post] = true
	}
	var called []int
	spots := []api.Spot{n.Tower}
	for len(spots) > 0 {
		for _, post := range n.heard[spots[0]] {
			if waiting[post] {
				delete(waiting, post)
				called = append(called, post)
				spots = append(spots, n.Posts[post].Spot)
			}
		}
		spots = spots[1:]
	}
	slices.Sort(called)
	return called
}

// meets returns those of the posts that are called by which a need is met.
func (n net) meets(need int, called []int) []int {
	var meeting []int
	for _, post := range n.inTime[need] {
		if slices.Contains(called, post) {
			meeting = append(meeting, post)
		}
	}
	return meeting
}

// lacks returns all needs that no post meets, if just those of a set are manned.
func (n net) lacks(manned int) []int {
	called := n.called(manned)
	var lacking []int
needs:
	for need, posts := range n.inTime {
		for _, post := range posts {
			if slices.Contains(called, post) {
				continue needs
			}
		}
		lacking = append(lacking, need)
	}
	return lacking
}

// holds tells whether nothing lacks, if just posts of a set are manned.
func (n net) holds(manned int) bool { return len(n.lacks(manned)) == 0 }

// weak returns all posts of a set without which alone the others do not hold.
func (n net) weak(manned int) []int {
	return slices.DeleteFunc(set.Members(manned), func(post int) bool { return n.holds(set.Without(manned, post)) })
}

// strong tells whether posts of a set alone, all others being taken away, are strong.
func (n net) strong(posts int) bool { return n.holds(posts) && len(n.weak(posts)) == 0 }
