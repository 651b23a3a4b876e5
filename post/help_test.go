package post_test

import (
	"fmt"
	"slices"
	"testing"

	"kreisel/api"
	"kreisel/post"
)

func span(lo, hi int) api.Span { return api.Span{Lo: lo, Hi: hi} }

func ints(l ...int) []int { return l }

func spot(stretch, lo, hi int) api.Spot { return api.Spot{Stretch: stretch, Off: span(lo, hi)} }

func doctor(id int, s api.Spot, delay int) api.Post {
	return api.Post{Id: id, Kind: api.PostDoctor, Spot: s, Delay: delay, Pace: 10}
}

func need(stretch int, kind uint8, seconds int) api.Need {
	return api.Need{Stretch: stretch, Kind: kind, Seconds: seconds}
}

// guard returns the guard of the chapter's examples, changed.
func guard(change ...func(g *api.Guard)) api.Guard {
	g := api.Guard{
		Track: api.Track{Stretches: []api.Stretch{
			{Id: 1, Long: span(10000, 10200)},
			{Id: 2, Long: span(5000, 5000), Side: api.SideLeft, Radius: span(2000, 2000)},
		}},
		Posts: []api.Post{doctor(2, spot(0, 9000, 9000), 20), doctor(5, spot(1, 1000, 1000), 30), doctor(6, spot(1, 4000, 4000), 10)},
		Needs: []api.Need{need(1, api.PostDoctor, 100)},
		Tower: spot(0, 5000, 5000), Radio: 6000,
	}
	for _, c := range change {
		c(&g)
	}
	return g
}

func radio(n int) func(g *api.Guard) { return func(g *api.Guard) { g.Radio = n } }

func needs(l ...api.Need) func(g *api.Guard) { return func(g *api.Guard) { g.Needs = l } }

// flat returns a guard on a stretch of 1,000 centimetres with the tower at its start, and doctors at some places, who need a second for each of them.
func flat(radio int, places ...int) api.Guard {
	g := api.Guard{Track: api.Track{Stretches: []api.Stretch{{Long: span(1000, 1000)}}}, Radio: radio}
	for i, at := range places {
		g.Posts = append(g.Posts, api.Post{Id: i, Kind: api.PostDoctor, Spot: spot(0, at, at), Pace: 1000})
	}
	return g
}

// taken returns a guard from which all posts but some are taken away.
func taken(g api.Guard, but []int) api.Guard {
	var left []api.Post
	for i, p := range g.Posts {
		if slices.Contains(but, i) {
			left = append(left, p)
		}
	}
	g.Posts = left
	return g
}

// without returns a list without one of its things.
func without[T any](list []T, i int) []T { return slices.Concat(list[:i], list[i+1:]) }

// within tells whether all numbers of a list are in another one.
func within(a, b []int) bool {
	return !slices.ContainsFunc(a, func(n int) bool { return !slices.Contains(b, n) })
}

// lists returns all lists of so many of some indices, in increasing order, the first one first.
func lists(from, to, size int) [][]int {
	if size == 0 {
		return [][]int{nil}
	}
	var all [][]int
	for i := from; i < to; i++ {
		for _, rest := range lists(i+1, to, size-1) {
			all = append(all, append(ints(i), rest...))
		}
	}
	return all
}

// A look is which truths of a track are gone through, and which numbers of a span.
type look struct {
	truths  func(list []api.Span) [][]int
	numbers func(s api.Span) []int
}

// everything goes through all that may be so.
func everything() look {
	var l look
	l.numbers = func(s api.Span) []int {
		var all []int
		for n := s.Lo; n <= s.Hi; n++ {
			all = append(all, n)
		}
		return all
	}
	l.truths = func(list []api.Span) [][]int {
		if len(list) == 0 {
			return [][]int{nil}
		}
		var all [][]int
		for _, n := range l.numbers(list[0]) {
			for _, rest := range l.truths(list[1:]) {
				all = append(all, append(ints(n), rest...))
			}
		}
		return all
	}
	return l
}

// corners goes through ends alone, with all stretches as short as they may be, or as long: no distance between two places is greater than at these, as either all stretches in between count, or none.
func corners() look {
	return look{
		func(list []api.Span) [][]int {
			all := make([][]int, 2)
			for _, s := range list {
				all[0], all[1] = append(all[0], s.Lo), append(all[1], s.Hi)
			}
			return all
		},
		func(s api.Span) []int { return ints(s.Lo, s.Hi) },
	}
}

// sum returns the sum of numbers.
func sum(list []int) int {
	all := 0
	for _, n := range list {
		all += n
	}
	return all
}

// abs returns a distance.
func abs(n int) int { return max(n, -n) }

// longs returns how long all stretches may be.
func longs(t api.Track) []api.Span {
	var list []api.Span
	for _, s := range t.Stretches {
		list = append(list, s.Long)
	}
	return list
}

// apart returns the greatest distance between what stands on two spots.
func (l look) apart(t api.Track, a, b api.Spot) int {
	most := 0
	for _, long := range l.truths(longs(t)) {
		for _, x := range l.numbers(a.Off) {
			for _, y := range l.numbers(b.Off) {
				most = max(most, abs(sum(long[:a.Stretch])+x-sum(long[:b.Stretch])-y))
			}
		}
	}
	return most
}

// far returns the greatest distance between what stands on a spot and a place of a stretch.
func (l look) far(t api.Track, s api.Spot, stretch int) int {
	most := 0
	for _, long := range l.truths(longs(t)) {
		for _, off := range l.numbers(s.Off) {
			for _, place := range l.numbers(span(sum(long[:stretch]), sum(long[:stretch+1]))) {
				most = max(most, abs(place-sum(long[:s.Stretch])-off))
			}
		}
	}
	return most
}

// timed returns how long a post needs for a distance.
func timed(p api.Post, far int) int {
	seconds := p.Pace * far / 1000
	if seconds*1000 < p.Pace*far {
		seconds++
	}
	return p.Delay + seconds
}

// A known is a guard, and what is asked of it word for word: how far posts are from all stretches, whom each post hears, and whether it hears the tower.
type known struct {
	api.Guard
	far   [][]int
	hears [][]bool
	tower []bool
}

// know returns what is known of a guard by a look.
func know(g api.Guard, l look) known {
	k := known{Guard: g}
	for _, p := range g.Posts {
		var far []int
		for stretch := range g.Track.Stretches {
			far = append(far, l.far(g.Track, p.Spot, stretch))
		}
		var hears []bool
		for _, other := range g.Posts {
			hears = append(hears, l.apart(g.Track, p.Spot, other.Spot) <= g.Radio)
		}
		k.far, k.hears = append(k.far, far), append(k.hears, hears)
		k.tower = append(k.tower, l.apart(g.Track, p.Spot, g.Tower) <= g.Radio)
	}
	return k
}

// only returns a guard from which all posts but some are taken away.
func (k known) only(posts []int) known {
	left := known{Guard: taken(k.Guard, posts)}
	for _, i := range posts {
		var hears []bool
		for _, other := range posts {
			hears = append(hears, k.hears[i][other])
		}
		left.far, left.hears, left.tower = append(left.far, k.far[i]), append(left.hears, hears), append(left.tower, k.tower[i])
	}
	return left
}

// called returns all posts that are called.
func (k known) called(empty []int) []int {
	var called []int
	for range k.Posts {
		for i := range k.Posts {
			if slices.Contains(empty, i) || slices.Contains(called, i) {
				continue
			}
			if k.tower[i] || slices.ContainsFunc(called, func(other int) bool { return k.hears[i][other] }) {
				called = append(called, i)
			}
		}
	}
	slices.Sort(called)
	return called
}

// meets returns all posts by which a need is met.
func (k known) meets(need int, empty []int) []int {
	n := k.Needs[need]
	return slices.DeleteFunc(k.called(empty), func(i int) bool {
		return k.Posts[i].Kind != n.Kind || timed(k.Posts[i], k.far[i][n.Stretch]) > n.Seconds
	})
}

// lacks returns all needs that are not met.
func (k known) lacks(empty []int) []int {
	var lacks []int
	for i := range k.Needs {
		if len(k.meets(i, empty)) == 0 {
			lacks = append(lacks, i)
		}
	}
	return lacks
}

// weak returns all posts without which something lacks.
func (k known) weak() []int {
	var weak []int
	for i := range k.Posts {
		if len(k.lacks(ints(i))) > 0 {
			weak = append(weak, i)
		}
	}
	return weak
}

// strong tells whether a guard is strong.
func (k known) strong() bool { return len(k.lacks(nil)) == 0 && len(k.weak()) == 0 }

// fewest returns the fewest posts that are strong, and whether there are any.
func (k known) fewest() ([]int, bool) {
	for size := range len(k.Posts) + 1 {
		for _, list := range lists(0, len(k.Posts), size) {
			if k.only(list).strong() {
				return list, true
			}
		}
	}
	return nil, false
}

// spare returns all posts without which the guard is strong.
func (k known) spare() []int {
	var spare []int
	all := lists(0, len(k.Posts), len(k.Posts))[0]
	for i := range k.Posts {
		if k.strong() && k.only(without(all, i)).strong() {
			spare = append(spare, i)
		}
	}
	return spare
}

// A story is all that is told of a guard, with some lists of empty posts.
type story struct {
	far, times    [][]int
	called, lacks [][]int
	meets         [][][]int
	weak, fewest  []int
	e, f          api.Errno
	spare         []int
}

// equal compares stories; nil is written as an empty list.
func equal(a, b story) bool { return fmt.Sprint(a) == fmt.Sprint(b) }

// storyOf returns the story of a valid guard, word for word.
func storyOf(k known, empties [][]int) story {
	s := story{far: k.far, spare: k.spare()}
	for i, p := range k.Posts {
		var times []int
		for _, far := range k.far[i] {
			times = append(times, timed(p, far))
		}
		s.times = append(s.times, times)
	}
	for _, empty := range empties {
		var meets [][]int
		for need := range k.Needs {
			meets = append(meets, k.meets(need, empty))
		}
		s.called, s.meets, s.lacks = append(s.called, k.called(empty)), append(s.meets, meets), append(s.lacks, k.lacks(empty))
	}
	if len(k.lacks(nil)) > 0 {
		s.e = api.ErrNone
	} else {
		s.weak = k.weak()
	}
	list, ok := k.fewest()
	if s.fewest = list; !ok {
		s.f = api.ErrNone
	}
	return s
}

// ways returns what the calls tell of how far all posts are from all stretches, and of their times.
func ways(t *testing.T, g api.Guard) (far, times [][]int) {
	t.Helper()
	for i := range g.Posts {
		var fars, all []int
		for stretch := range g.Track.Stretches {
			a, e := post.Far(g, i, stretch)
			b, f := post.Time(g, i, stretch)
			if e != api.OK || f != api.OK {
				t.Fatal("an error:", g, i, stretch, e, f)
			}
			fars, all = append(fars, a), append(all, b)
		}
		far, times = append(far, fars), append(times, all)
	}
	return far, times
}

// told returns the story that the calls tell of a valid guard.
func told(t *testing.T, g api.Guard, empties [][]int) story {
	t.Helper()
	var s story
	s.far, s.times = ways(t, g)
	for _, empty := range empties {
		var meets [][]int
		for need := range g.Needs {
			meets = append(meets, sure(t)(post.Meets(g, need, empty)))
		}
		s.called, s.meets, s.lacks = append(s.called, called(t, g, empty)), append(s.meets, meets), append(s.lacks, lacks(t, g, empty))
	}
	s.weak, s.e = post.Weak(g)
	s.fewest, s.f = post.Fewest(g)
	s.spare = spare(t, g)
	return s
}

// sure returns a function that passes on a list that came without an error.
func sure(t *testing.T) func(list []int, e api.Errno) []int {
	t.Helper()
	return func(list []int, e api.Errno) []int {
		t.Helper()
		if e != api.OK {
			t.Fatal("an error:", e)
		}
		return list
	}
}

// called returns what Called does.
func called(t *testing.T, g api.Guard, empty []int) []int {
	t.Helper()
	return sure(t)(post.Called(g, empty))
}

// lacks returns what Lacks does.
func lacks(t *testing.T, g api.Guard, empty []int) []int {
	t.Helper()
	return sure(t)(post.Lacks(g, empty))
}

// spare returns what Spare does.
func spare(t *testing.T, g api.Guard) []int {
	t.Helper()
	return sure(t)(post.Spare(g))
}

// isStrong tells whether nothing lacks with no post empty, and nothing is weak.
func isStrong(g api.Guard) bool {
	list, e := post.Weak(g)
	return len(list) == 0 && e == api.OK
}
