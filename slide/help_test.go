package slide_test

import (
	"math/rand/v2"
	"slices"
	"testing"

	"kreisel/api"
	"kreisel/slide"
)

func span(lo, hi int) api.Span { return api.Span{Lo: lo, Hi: hi} }

func ints(l ...int) []int { return l }

// run returns the track of the chapter's examples, with a wall in its curve.
func run(wall int) api.Track {
	return api.Track{Stretches: []api.Stretch{
		{Id: 3, Long: span(4000, 4100), Fall: span(400, 420)},
		{Id: 5, Long: span(2000, 2200), Fall: span(150, 160), Side: api.SideLeft, Radius: span(1500, 1600), Wall: wall},
		{Id: 8, Long: span(3000, 3000), Fall: span(300, 330)},
	}}
}

// bob returns the sled of the chapter's examples, changed.
func bob(change ...func(s *api.Sled)) api.Sled {
	s := api.Sled{Class: api.ClassBob, Start: span(200, 300), Rub: span(1, 4), Drag: span(100, 200), Weight: span(300000, 400000), Steer: span(-20, 30)}
	for _, x := range change {
		x(&s)
	}
	return s
}

// plain returns a sled from which nothing is taken, with a head at the start.
func plain(start api.Span) api.Sled {
	return api.Sled{Class: api.ClassLuge, Start: start, Weight: span(api.MinMass, api.MinMass)}
}

// bend returns a track that is just one flat curve, with a radius and a wall.
func bend(radius, wall int) api.Track {
	return api.Track{Stretches: []api.Stretch{{Id: 1, Long: span(100, 100), Side: api.SideRight, Radius: span(radius, radius), Wall: wall}}}
}

// joined returns a track of all stretches of some tracks, with new Ids.
func joined(list ...api.Track) api.Track {
	var t api.Track
	for _, r := range list {
		t.Stretches = append(t.Stretches, r.Stretches...)
	}
	for i := range t.Stretches {
		t.Stretches[i].Id = i
	}
	return t
}

// changed returns a copy of a track of which a stretch is changed.
func changed(t api.Track, i int, change func(s *api.Stretch)) api.Track {
	t.Stretches = slices.Clone(t.Stretches)
	change(&t.Stretches[i])
	return t
}

func isCurve(s api.Stretch) bool { return s.Side != api.SideNone }

// dice throw numbers that are the same in each run of the tests.
type dice struct{ *rand.Rand }

func newDice(seed uint64) dice { return dice{rand.New(rand.NewPCG(seed, 3))} }

func (d dice) from(lo, hi int) int { return lo + d.IntN(hi-lo+1) }

// span throws a span with ends from lo to hi that is at most wide.
func (d dice) span(lo, hi, wide int) api.Span {
	l := d.from(lo, hi)
	return span(l, min(hi, l+d.from(0, wide)))
}

// track throws a track on which heads of some hundreds go up and down.
func (d dice) track(most int) api.Track {
	var t api.Track
	for i := range d.from(1, most) {
		s := api.Stretch{Id: 2*i + d.from(0, 1), Long: d.span(1, 3000, 400*d.from(0, 1)), Fall: d.span(0, 60, 20*d.from(0, 1))}
		// The air takes all of a head, on a way as long, if there is much drag.
		if d.from(0, 9) == 0 {
			s.Long = d.span(4000, api.MaxLong, 2000)
		}
		if d.from(0, 2) > 0 {
			s.Side = uint8(d.from(api.SideLeft, api.SideRight))
			s.Radius = d.span(api.MinRadius, 2000, 300*d.from(0, 1))
			s.Wall = d.from(0, 50)
		}
		t.Stretches = append(t.Stretches, s)
	}
	return t
}

// sled throws a sled for such tracks.
func (d dice) sled() api.Sled {
	return api.Sled{
		Class:  uint8(d.from(api.ClassBob, api.ClassLuge)),
		Start:  d.span(0, 250, 100*d.from(0, 1)),
		Rub:    d.span(0, 2, 1),
		Drag:   d.span(0, 300*d.from(0, 1)+d.from(0, 1)*700, 100*d.from(0, 1)),
		Weight: d.span(api.MinMass, 100000, 20000*d.from(0, 1)),
		Steer:  d.span(-20, 20, 9*d.from(0, 1)),
	}
}

// headAfter returns the head at the next mark, word for word.
func headAfter(head, drag, weight, long, fall, rub int) int {
	air := head * drag * long / (100 * weight)
	head = max(head-air, 0)
	head += fall
	return max(head-rub*long/100, 0)
}

// speedOf returns the speed of a head, and the one that is rounded up, word for word.
func speedOf(head int) (down, up int) {
	for (down+1)*(down+1)*10 <= 1962*head {
		down++
	}
	for up*up*10 < 1962*head {
		up++
	}
	return down, up
}

// some returns numbers of a span, both ends among them: all numbers, if there are not more than three.
func some(s api.Span) []int {
	return slices.Compact([]int{s.Lo, (s.Lo + s.Hi) / 2, s.Hi})
}

// hull is the least span that has all numbers put into it.
type hull struct {
	span api.Span
	any  bool
}

func (h *hull) put(n int) {
	if !h.any {
		h.span, h.any = span(n, n), true
	}
	h.span = span(min(h.span.Lo, n), max(h.span.Hi, n))
}

// told is what truths of a sled on a track come to: heads by marks; heights, least times (0, if it stands in each truth) and whether they throw by stretches; and whether any truth throws it nowhere, or somewhere.
type told struct {
	heads, heights []hull
	least          []int
	throws         []bool
	safe, thrown   bool
}

// state is how a sled comes to a mark in some truth: with which head, and whether a curve before threw it.
type state struct {
	head   int
	thrown bool
}

// truths goes through truths of a sled on a track, stretch by stretch, with all choices of some numbers of each span.
func truths(t api.Track, s api.Sled) told {
	n := len(t.Stretches)
	all := told{heads: make([]hull, n+1), heights: make([]hull, n), least: make([]int, n), throws: make([]bool, n)}
	for _, drag := range some(s.Drag) {
		for _, weight := range some(s.Weight) {
			states := map[state]bool{}
			for _, head := range some(s.Start) {
				states[state{head: head}] = true
			}
			for i := range n {
				next := map[state]bool{}
				for x := range states {
					all.heads[i].put(x.head)
					all.through(t, s, i, x, drag, weight, next)
				}
				states = next
			}
			for x := range states {
				all.heads[n].put(x.head)
				all.safe, all.thrown = all.safe || !x.thrown, all.thrown || x.thrown
			}
		}
	}
	return all
}

// through goes through a stretch, from a state at its beginning to all that may be at its end.
func (all *told) through(t api.Track, s api.Sled, i int, x state, drag, weight int, next map[state]bool) {
	r := t.Stretches[i]
	for _, long := range some(r.Long) {
		for _, fall := range some(r.Fall) {
			for _, rub := range some(s.Rub) {
				head := headAfter(x.head, drag, weight, long, fall, rub)
				top := max(x.head, head)
				if _, up := speedOf(top); up > 0 {
					all.passes(i, (long*1000+up-1)/up)
				}
				if !isCurve(r) {
					next[state{head, x.thrown}] = true
					continue
				}
				for _, radius := range some(r.Radius) {
					for _, steer := range some(s.Steer) {
						height := 1200*top/(10*radius) + steer
						all.heights[i].put(height)
						all.throws[i] = all.throws[i] || height > r.Wall
						next[state{head, x.thrown || height > r.Wall}] = true
					}
				}
			}
		}
	}
}

// passes puts down that a truth needs as long for a stretch.
func (all *told) passes(i, time int) {
	if all.least[i] == 0 || time < all.least[i] {
		all.least[i] = time
	}
}

// knownSafe returns what is known of a sled being safe, by what truths come to.
func (all told) knownSafe() uint8 {
	switch {
	case !all.thrown:
		return api.KnownYes
	case !all.safe:
		return api.KnownNo
	}
	return api.KnownOpen
}

func mustHeads(t *testing.T, r api.Track, s api.Sled) []api.Span {
	t.Helper()
	l, e := slide.Heads(r, s)
	if e != api.OK {
		t.Fatal("Heads:", r, s, e)
	}
	return l
}

func mustSpeed(t *testing.T, r api.Track, s api.Sled, mark int) api.Span {
	t.Helper()
	v, e := slide.Speed(r, s, mark)
	if e != api.OK {
		t.Fatal("Speed:", r, s, mark, e)
	}
	return v
}

func mustHeight(t *testing.T, r api.Track, s api.Sled, i int) api.Span {
	t.Helper()
	h, e := slide.Height(r, s, i)
	if e != api.OK {
		t.Fatal("Height:", r, s, i, e)
	}
	return h
}

func mustSafe(t *testing.T, r api.Track, s api.Sled) uint8 {
	t.Helper()
	k, e := slide.Safe(r, s)
	if e != api.OK {
		t.Fatal("Safe:", r, s, e)
	}
	return k
}

func mustWalls(t *testing.T, r api.Track, s api.Sled) []int {
	t.Helper()
	l, e := slide.Walls(r, s)
	if e != api.OK {
		t.Fatal("Walls:", r, s, e)
	}
	return l
}
