package post_test

import (
	"math/rand/v2"
	"slices"

	"kreisel/api"
)

// dice throw numbers that are the same in each run of the tests.
type dice struct{ *rand.Rand }

func newDice(seed uint64) dice { return dice{rand.New(rand.NewPCG(seed, 9))} }

func (d dice) from(lo, hi int) int { return lo + d.IntN(hi-lo+1) }

// span throws a span with ends from lo to hi that is at most wide.
func (d dice) span(lo, hi, wide int) api.Span {
	l := d.from(lo, hi)
	return span(l, min(hi, l+d.from(0, wide)))
}

// A size is how many stretches there are, how long each of them is, by how much its length, and where something stands, may differ, how many posts there are, and by which look all of it is gone through.
type size struct {
	stretches, long, wide, posts int
	look                         look
}

// Small guards are those of which all truths can be gone through.
func small() size { return size{3, 4, 1, 5, everything()} }

func great() size { return size{api.MaxStretches, api.MaxLong, 200, api.MaxPosts, corners()} }

// spot throws a spot of a track.
func (d dice) spot(t api.Track, wide int) api.Spot {
	stretch := d.IntN(len(t.Stretches))
	return api.Spot{Stretch: stretch, Off: d.span(0, t.Stretches[stretch].Long.Lo-1, d.from(0, wide))}
}

// post throws a post; it often stands where another one does.
func (d dice) post(g api.Guard, kinds int, s size) api.Post {
	p := api.Post{Kind: uint8(d.from(1, kinds)), Spot: d.spot(g.Track, s.wide), Pace: d.from(1, d.from(1, d.from(1, api.MaxPace)))}
	if d.from(0, 3) == 0 && len(g.Posts) > 0 {
		p.Spot = g.Posts[d.IntN(len(g.Posts))].Spot
	}
	p.Delay = d.from(0, d.from(0, s.long*p.Pace/1000+1))
	return p
}

// guard throws a guard of a size. Needs are such that some posts come just in time, and others just too late, and radios reach from some post to another one.
func (d dice) guard(s size) api.Guard {
	g := api.Guard{}
	for i := range d.from(1, s.stretches) {
		g.Track.Stretches = append(g.Track.Stretches, api.Stretch{Id: i, Long: d.span(1, s.long, s.wide)})
	}
	kinds, id := d.from(1, d.from(1, 3)), d.from(0, 3)
	for range max(d.from(0, s.posts), d.from(0, s.posts)) {
		p := d.post(g, kinds, s)
		p.Id, id = id, id+d.from(1, 9)
		g.Posts = append(g.Posts, p)
	}
	g.Tower = d.spot(g.Track, s.wide)
	g.Radio = d.reach(g, s.look)
	for range d.from(0, d.from(0, d.from(2, api.MaxNeeds))) {
		g.Needs = append(g.Needs, d.need(g, kinds, s.look))
	}
	return g
}

// reach throws a distance at which each post hears some others (or the tower), or one less or more; or a distance between two of them.
func (d dice) reach(g api.Guard, l look) int {
	spots := []api.Spot{g.Tower}
	for _, p := range g.Posts {
		spots = append(spots, p.Spot)
	}
	others, most, from := d.from(1, 3), 0, d.IntN(2)
	for i := range spots[from:] {
		var apart []int
		for _, other := range without(spots, i+from) {
			apart = append(apart, l.apart(g.Track, spots[i+from], other))
		}
		slices.Sort(apart)
		if len(apart) > 0 {
			most = max(most, apart[min(others, len(apart))-1])
		}
	}
	if d.from(0, 3) == 0 {
		most = l.apart(g.Track, spots[d.IntN(len(spots))], spots[d.IntN(len(spots))])
	}
	return max(0, most+d.from(-1, 1)*d.IntN(2))
}

// need throws a need that some posts meet just in time, if they are called, or just fail to meet.
func (d dice) need(g api.Guard, kinds int, l look) api.Need {
	n := need(d.IntN(len(g.Track.Stretches)), uint8(d.from(1, kinds)), d.from(0, api.MaxSecs))
	var times []int
	for _, p := range g.Posts {
		if p.Kind == n.Kind {
			times = append(times, timed(p, l.far(g.Track, p.Spot, n.Stretch)))
		}
	}
	slices.Sort(times)
	if len(times) > 0 && d.from(0, 9) > 0 {
		n.Seconds = times[min(d.from(1, 4), len(times))-1] + []int{-1, 0, 0, 0, d.from(1, 9)}[d.IntN(5)]
	}
	n.Seconds = max(0, min(api.MaxSecs, n.Seconds))
	return n
}

// both throws a small guard or a great one.
func (d dice) both() api.Guard { return d.guard([]size{small(), great()}[d.IntN(2)]) }

// some throws some of so many indices, in increasing order.
func (d dice) some(n int) []int {
	list := d.Perm(n)[:d.from(0, n)]
	slices.Sort(list)
	return list
}

// truth throws a truth of a track: how long all stretches are.
func (d dice) truth(t api.Track) []int {
	var longs []int
	for _, s := range t.Stretches {
		longs = append(longs, d.from(s.Long.Lo, s.Long.Hi))
	}
	return longs
}

// measures throws measures with which a truth of a track agrees.
func (d dice) measures(longs []int) []api.Measure {
	var list []api.Measure
	for range d.from(1, 4) {
		from := d.IntN(len(longs))
		to := d.from(from+1, len(longs))
		n := sum(longs[from:to])
		list = append(list, api.Measure{Kind: api.MeasureLong, From: from, To: to, Value: span(max(0, n-d.from(0, 9)), min(api.MaxRun, n+d.from(0, 9)))})
	}
	return list
}
