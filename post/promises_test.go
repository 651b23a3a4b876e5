package post_test

import (
	"fmt"
	"math"
	"slices"
	"testing"

	"kreisel/api"
	"kreisel/post"
	"kreisel/track"
)

// A day is a guard as it truly is: where posts and the tower stand, and how long all stretches are.
type day struct {
	api.Guard
	longs, places []int
	tower         int
}

// day throws a guard as it truly may be.
func (d dice) day(g api.Guard) day {
	x := day{Guard: g, longs: d.truth(g.Track)}
	stands := func(s api.Spot) int { return sum(x.longs[:s.Stretch]) + d.from(s.Off.Lo, s.Off.Hi) }
	x.tower = stands(g.Tower)
	for _, p := range g.Posts {
		x.places = append(x.places, stands(p.Spot))
	}
	return x
}

// reached returns all posts that truly hear the tower, or one who does, if some are empty.
func (x day) reached(empty []int) []int {
	var reached []int
	speakers := ints(x.tower)
	for len(speakers) > 0 {
		for i, place := range x.places {
			if !slices.Contains(empty, i) && !slices.Contains(reached, i) && abs(place-speakers[0]) <= x.Radio {
				reached, speakers = append(reached, i), append(speakers, place)
			}
		}
		speakers = speakers[1:]
	}
	return reached
}

// P9.5: if nothing is weak, one that is called comes in time, whatever is true, wherever help is needed, and whichever post is empty.
func TestHelpComesInTime(t *testing.T) {
	d := newDice(11)
	helped := 0
	for range 4000 {
		g := d.both()
		if !isStrong(g) || len(g.Needs) == 0 {
			continue
		}
		x := d.day(g)
		for out := -1; out < len(g.Posts); out++ {
			var empty []int
			if out >= 0 {
				empty = ints(out)
			}
			all, reached := called(t, g, empty), x.reached(empty)
			if !within(all, reached) {
				t.Error(g, x, empty, all, reached)
			}
			for _, n := range g.Needs {
				from := sum(x.longs[:n.Stretch])
				for _, place := range ints(from, from+x.longs[n.Stretch], d.from(from, from+x.longs[n.Stretch])) {
					if !slices.ContainsFunc(all, func(i int) bool {
						p := g.Posts[i]
						return p.Kind == n.Kind && timed(p, abs(place-x.places[i])) <= n.Seconds
					}) {
						t.Error(g, x, empty, n, place)
					}
					helped++
				}
			}
		}
	}
	if helped < 3000 {
		t.Error("too few:", helped)
	}
}

// P9.6: no truth has a post farther than it is told, nor slower; and in some truth it is as far from an end of the stretch.
func TestFarIsTheGreatestDistance(t *testing.T) {
	d := newDice(12)
	for range 1500 {
		g := d.both()
		for i, p := range g.Posts {
			for stretch := range g.Track.Stretches {
				far, _ := post.Far(g, i, stretch)
				time, _ := post.Time(g, i, stretch)
				for range 5 {
					x := d.day(g)
					from := sum(x.longs[:stretch])
					place := d.from(from, from+x.longs[stretch])
					if n := abs(place - x.places[i]); n > far || timed(p, n) > time {
						t.Error(g, x, i, stretch, place, far, time)
					}
				}
				// All stretches are as long as they may be, and the post stands at an end of its spot.
				reached := false
				longs := corners().truths(longs(g.Track))[1]
				for _, off := range ints(p.Spot.Off.Lo, p.Spot.Off.Hi) {
					for _, end := range ints(stretch, stretch+1) {
						reached = reached || abs(sum(longs[:end])-sum(longs[:p.Spot.Stretch])-off) == far
					}
				}
				if !reached || timed(p, far) != time {
					t.Error(g, i, stretch, far, time)
				}
			}
		}
	}
}

// P9.7: for each weak post a need is told that lacks without it; without any other one nothing lacks.
func TestWeakPostsAreMissed(t *testing.T) {
	d := newDice(13)
	weak, fine, none := 0, 0, 0
	for range 2000 {
		g := d.both()
		list, e := post.Weak(g)
		if lacking := len(lacks(t, g, nil)) > 0; lacking != (e == api.ErrNone) || !lacking && e != api.OK || lacking && len(list) > 0 {
			t.Error(g, list, e)
		}
		if e != api.OK {
			none++
			continue
		}
		for i := range g.Posts {
			is := slices.Contains(list, i)
			if lacking := len(lacks(t, g, ints(i))) > 0; lacking != is {
				t.Error(g, list, i)
			}
			if is {
				weak++
			} else if len(g.Needs) > 0 {
				fine++
			}
		}
	}
	if min(weak, fine, none) < 200 {
		t.Error("too few of a sort:", weak, fine, none)
	}
}

// P9.8: the fewest posts are strong, and each of them alone may be empty; no fewer are, nor as many that come first, by any choice.
func TestNoFewerAreStrong(t *testing.T) {
	d := newDice(14)
	sizes := map[int]int{}
	for range 1500 {
		g := d.both()
		few, e := post.Fewest(g)
		if e != api.OK && e != api.ErrNone || e != api.OK && len(few) > 0 {
			t.Fatal(g, few, e)
		}
		size := len(few)
		if e == api.OK {
			alone := taken(g, few)
			if !isStrong(alone) {
				t.Error(g, few)
			}
			for i := range few {
				if l := lacks(t, alone, ints(i)); len(l) > 0 {
					t.Error(g, few, i, l)
				}
			}
			sizes[size]++
		} else {
			size = len(g.Posts) + 1
		}
		for n := range size + 1 {
			for _, list := range lists(0, len(g.Posts), n) {
				if n == size && slices.Compare(list, few) >= 0 {
					break
				}
				if isStrong(taken(g, list)) {
					t.Error(g, few, e, list)
				}
			}
		}
		if len(g.Needs) == 0 && (len(few) > 0 || e != api.OK) {
			t.Error(g, few, e)
		}
	}
	if min(sizes[0], sizes[2], sizes[3]+sizes[4]) < 20 {
		t.Error("too few of a sort:", sizes)
	}
}

// P9.4: posts are spare just if the guard is strong with them, and without each of them.
func TestSparePosts(t *testing.T) {
	d := newDice(15)
	some, others := 0, 0
	for range 1500 {
		g := d.both()
		list := spare(t, g)
		for i := range g.Posts {
			h := g
			h.Posts = without(g.Posts, i)
			is := isStrong(g) && isStrong(h)
			if slices.Contains(list, i) != is {
				t.Error(g, list, i)
			}
			if is && len(g.Needs) > 0 {
				some++
			} else if isStrong(g) {
				others++
			}
		}
		if !isStrong(g) && len(list) > 0 {
			t.Error(g, list)
		}
	}
	if min(some, others) < 100 {
		t.Error("too few of a sort:", some, others)
	}
}

// better throws a guard with a post more, a farther radio or a faster post, and where each of the posts is in it.
func (d dice) better(g api.Guard) (api.Guard, []int) {
	where := lists(0, len(g.Posts), len(g.Posts))[0]
	g.Posts = slices.Clone(g.Posts)
	switch sort := d.from(0, 2); {
	case sort == 0 || len(g.Posts) == 0:
		g.Radio = min(api.MaxRadios, g.Radio+d.from(0, d.from(0, api.MaxRadios)))
	case sort == 1 && len(g.Posts) < api.MaxPosts:
		// Ids are made anew, so that there is room for one in between.
		i := d.from(0, len(g.Posts))
		g.Posts = slices.Insert(g.Posts, i, d.post(g, 3, great()))
		for k := range g.Posts {
			g.Posts[k].Id = k
		}
		for k := i; k < len(where); k++ {
			where[k]++
		}
	default:
		p := &g.Posts[d.IntN(len(g.Posts))]
		p.Pace, p.Delay = d.from(1, p.Pace), d.from(0, p.Delay)
	}
	return g, where
}

// P9.9: with a post more, a farther radio, or a faster one, nothing more lacks; with one more empty nothing less does.
func TestMoreHelps(t *testing.T) {
	d := newDice(16)
	fewer, more := 0, 0
	for range 4000 {
		g := d.both()
		empty := d.some(len(g.Posts))
		before := lacks(t, g, empty)
		better, where := d.better(g)
		var still []int
		for _, i := range empty {
			still = append(still, where[i])
		}
		behind := lacks(t, better, still)
		if !within(behind, before) {
			t.Error(g, better, empty, before, behind)
		}
		if len(behind) < len(before) {
			fewer++
		}
		if len(empty) == 0 {
			continue
		}
		manned := without(empty, d.IntN(len(empty)))
		if l := lacks(t, g, manned); !within(l, before) {
			t.Error(g, empty, manned, before, l)
		} else if len(l) < len(before) {
			more++
		}
	}
	if min(fewer, more) < 100 {
		t.Error("too few of a sort:", fewer, more)
	}
}

// P9.10: measures that narrow a track bring no post farther away, and let nothing lack that did not.
func TestMeasuresHelp(t *testing.T) {
	d := newDice(17)
	nearer, fewer := 0, 0
	for range 3000 {
		g := d.both()
		h := g
		narrowed, e := track.Narrow(g.Track, d.measures(d.truth(g.Track)))
		if e != api.OK {
			t.Fatal(g, e)
		}
		h.Track = narrowed
		before, times := ways(t, g)
		behind, times2 := ways(t, h)
		for i := range g.Posts {
			for k := range g.Track.Stretches {
				if behind[i][k] > before[i][k] || times2[i][k] > times[i][k] {
					t.Error(g, h, i, k)
				}
				if behind[i][k] < before[i][k] {
					nearer++
				}
			}
		}
		empty := d.some(len(g.Posts))
		l, m := lacks(t, g, empty), lacks(t, h, empty)
		if !within(m, l) {
			t.Error(g, h, empty, l, m)
		}
		if len(m) < len(l) {
			fewer++
		}
	}
	if min(nearer, fewer) < 30 {
		t.Error("too few of a sort:", nearer, fewer)
	}
}

// P9.11: who is called hears the tower, or, over some who are called, one who hears it; nobody else hears any of these.
func TestCalledHearSomebody(t *testing.T) {
	for _, s := range []size{small(), great()} {
		d := newDice(18)
		calls, silent := 0, 0
		for range 1000 {
			g := d.guard(s)
			k := know(g, s.look)
			empty := d.some(len(g.Posts))
			list := called(t, g, empty)
			for i := range g.Posts {
				hears := k.tower[i] || slices.ContainsFunc(list, func(other int) bool { return other != i && k.hears[i][other] })
				if is := slices.Contains(list, i); is != (hears && !slices.Contains(empty, i)) {
					t.Error(g, empty, list, i)
				} else if is && !k.tower[i] {
					calls++
				} else if !is && !slices.Contains(empty, i) {
					silent++
				}
			}
		}
		if min(calls, silent) < 100 {
			t.Error("too few of a sort:", calls, silent)
		}
	}
}

// moved returns where each of some indices is, in increasing order.
func moved(list, where []int) []int {
	var all []int
	for _, i := range list {
		all = append(all, where[i])
	}
	slices.Sort(all)
	return all
}

// P9.11: the order of posts matters for their indices alone.
func TestOrderOfPosts(t *testing.T) {
	d := newDice(19)
	for range 1500 {
		g := d.both()
		where := d.Perm(len(g.Posts))
		h := g
		h.Posts = slices.Clone(g.Posts)
		for i, p := range g.Posts {
			p.Id = g.Posts[where[i]].Id
			h.Posts[where[i]] = p
		}
		empty := d.some(len(g.Posts))
		there := moved(empty, where)
		if a, b := called(t, g, empty), called(t, h, there); !slices.Equal(moved(a, where), b) {
			t.Error(g, h, empty, a, b)
		}
		if a, b := lacks(t, g, empty), lacks(t, h, there); !slices.Equal(a, b) {
			t.Error(g, h, empty, a, b)
		}
		for need := range g.Needs {
			a, _ := post.Meets(g, need, empty)
			b, _ := post.Meets(h, need, there)
			if !slices.Equal(moved(a, where), b) {
				t.Error(g, h, need, empty, a, b)
			}
		}
		a, e := post.Weak(g)
		b, f := post.Weak(h)
		if !slices.Equal(moved(a, where), b) || e != f {
			t.Error(g, h, a, b, e, f)
		}
		if a, b := spare(t, g), spare(t, h); !slices.Equal(moved(a, where), b) {
			t.Error(g, h, a, b)
		}
		a, e = post.Fewest(g)
		b, f = post.Fewest(h)
		if len(a) != len(b) || e != f {
			t.Error(g, h, a, b, e, f)
		}
	}
}

// R5: the greatest numbers of all.
func TestGreatestGuard(t *testing.T) {
	g := api.Guard{Radio: api.MaxRadios}
	for i := range api.MaxStretches {
		g.Track.Stretches = append(g.Track.Stretches, api.Stretch{Id: i, Long: span(api.MaxLong, api.MaxLong)})
	}
	for i := range api.MaxPosts {
		g.Posts = append(g.Posts, api.Post{Id: i, Kind: api.PostAmbulance, Spot: spot(11*(i%2), 29999*(i%2), 29999*(i%2)), Delay: api.MaxSecs, Pace: api.MaxPace})
	}
	for i := range api.MaxNeeds {
		g.Needs = append(g.Needs, need(i, api.PostAmbulance, api.MaxSecs))
	}
	for i := range g.Posts {
		for stretch := range g.Track.Stretches {
			want := 30000 * (stretch + 1)
			if i%2 == 1 {
				want = 359999 - 30000*stretch
			}
			far, e := post.Far(g, i, stretch)
			time, f := post.Time(g, i, stretch)
			if far != want || time != api.MaxSecs+want || e != api.OK || f != api.OK {
				t.Error(i, stretch, far, time, e, f)
			}
		}
	}
	if l := called(t, g, nil); len(l) != api.MaxPosts {
		t.Error(l)
	}
	g.Radio = 359998
	if l := called(t, g, nil); !slices.Equal(l, ints(0, 2, 4, 6)) {
		t.Error(l)
	}
	if l := lacks(t, g, nil); len(l) != api.MaxNeeds {
		t.Error(l)
	}
}

// R3: no argument is written to, nor the memory behind its end.
func TestNoArgumentIsWrittenTo(t *testing.T) {
	x, wanted := ask(), ask()
	stretches := append(x.g.Track.Stretches, api.Stretch{Id: 4}, api.Stretch{Id: 44})
	posts := append(x.g.Posts, doctor(44, spot(4, 4, 4), 4), doctor(444, spot(4, 4, 4), 4))
	needs := append(x.g.Needs, need(4, 4, 4), need(44, 4, 4))
	empty := append(x.empty, 4, 44)
	x.g.Track.Stretches, x.g.Posts, x.g.Needs = stretches[:2], posts[:3], needs[:2]
	text := func() string { return fmt.Sprint(stretches, posts, needs, empty) }
	before := text()
	for i := range 3 {
		for k := range 2 {
			x.post, x.stretch, x.need, x.empty = i, k, k, empty[:k]
			calls(x)
			if text() != before || fmt.Sprint(x.g) != fmt.Sprint(wanted.g) {
				t.Error(i, k, text(), before)
			}
		}
	}
}

// R4: a nil list and an empty one are the same.
func TestNilAndEmpty(t *testing.T) {
	for i, x := range []struct {
		change func(x *asked, none bool)
		e      api.Errno
	}{
		{func(x *asked, none bool) { x.g.Track.Stretches = map[bool][]api.Stretch{false: {}}[none] }, api.ErrTrack},
		{func(x *asked, none bool) { x.g.Posts = map[bool][]api.Post{false: {}}[none] }, api.OK},
		{func(x *asked, none bool) { x.g.Needs = map[bool][]api.Need{false: {}}[none] }, api.OK},
		{func(x *asked, none bool) { x.empty = map[bool][]int{false: {}}[none] }, api.OK},
		{func(x *asked, none bool) {
			x.empty = map[bool][]int{false: {}}[none]
			x.g.Posts = map[bool][]api.Post{true: {}}[none]
		}, api.OK},
	} {
		y, z := ask(), ask()
		x.change(&y, true)
		x.change(&z, false)
		a, b := calls(y), calls(z)
		if !slices.Equal(a, b) || a[0].e != x.e {
			t.Error(i, a, b)
		}
	}
}

// spoil writes to all memory of results.
func spoil(x asked) {
	called, _ := post.Called(x.g, x.empty)
	meets, _ := post.Meets(x.g, x.need, x.empty)
	lacks, _ := post.Lacks(x.g, x.empty)
	weak, _ := post.Weak(x.g)
	fewest, _ := post.Fewest(x.g)
	spare, _ := post.Spare(x.g)
	for _, numbers := range [][]int{called, meets, lacks, weak, fewest, spare} {
		numbers = numbers[:cap(numbers)]
		for i := range numbers {
			numbers[i] = 7
		}
	}
}

// R3: a result shares no memory with an argument, nor with another one, and nothing is remembered from one call to another.
func TestCallsAreTheSameAgain(t *testing.T) {
	d := newDice(21)
	var list []asked
	var first [][]result
	for range 300 {
		x := asked{g: d.both(), post: d.from(0, 4), stretch: d.from(0, 4), need: d.from(0, 4)}
		x.empty = d.some(len(x.g.Posts))
		list, first = append(list, x), append(first, calls(x))
	}
	for i := len(list) - 1; i >= 0; i-- {
		spoil(list[i])
		for range 3 {
			if again := calls(list[i]); !slices.Equal(again, first[i]) {
				t.Error(list[i], again, first[i])
			}
		}
	}
}

// R5, R7: no call panics, whatever its arguments are.
func TestNoCallPanics(t *testing.T) {
	d := newDice(22)
	ends := []int{math.MinInt, -10000, -1, 0, 1, 2, 3, 7, 8, 9, 11, 12, 255, 999, 1000, 1001, 9999, 10000, 30000, 36000, 36001, 400000, 400001, math.MaxInt}
	pick := func() int { return ends[d.IntN(len(ends))] }
	spots := func() api.Spot { return spot(pick(), pick(), pick()) }
	for range 4000 {
		x := asked{d.both(), pick(), pick(), pick(), slices.Repeat(ints(pick(), pick()), d.from(0, 2))}
		switch d.from(0, 8) {
		case 0:
			x.g.Radio = pick()
		case 1:
			x.g.Tower = spots()
		case 2:
			x.g.Posts = append(x.g.Posts, api.Post{Id: pick(), Kind: uint8(pick()), Spot: spots(), Delay: pick(), Pace: pick()})
		case 3:
			x.g.Posts = slices.Repeat(x.g.Posts, d.from(0, 3))
		case 4:
			x.g.Needs = append(x.g.Needs, need(pick(), uint8(pick()), pick()))
		case 5:
			x.g.Needs = slices.Repeat(x.g.Needs, d.from(0, 3))
		case 6:
			x.g.Track.Stretches = slices.Repeat(x.g.Track.Stretches, d.from(0, 2))
		case 7:
			x.g.Track.Stretches[0].Long = span(pick(), pick())
		}
		calls(x)
	}
	calls(asked{})
}
