package race_test

import (
	"fmt"
	"math/rand/v2"
	"slices"
	"testing"

	"kreisel/api"
	"kreisel/beam"
	"kreisel/race"
)

func span(lo, hi int) api.Span { return api.Span{Lo: lo, Hi: hi} }

func ints(l ...int) []int { return l }

func at(lo, hi int) api.Spot { return api.Spot{Off: span(lo, hi)} }

func sig(beam, read int) api.Signal { return api.Signal{Beam: beam, Read: read} }

func fixed(lo, hi int) api.Descent { return api.Descent{Fixed: true, Time: span(lo, hi)} }

func out() api.Descent { return api.Descent{Out: true} }

// down returns a descent that is the ride of layer 5's examples: from 2,596 to 2,602.
func down() api.Descent {
	return api.Descent{Ride: api.Ride{Start: 10000, Now: 20000, Signals: []api.Signal{sig(0, 10600), sig(0, 11000), sig(1, 12600)}}}
}

// line returns the line of layer 5's examples.
func line() api.Line {
	return api.Line{
		Track: api.Track{Stretches: []api.Stretch{{Id: 4, Long: span(10000, 10200)}}}, Fast: 2000,
		Clocks: []api.Clock{{Drift: 100, Syncs: []api.Sync{{Ahead: span(0, 2)}, {At: 100000, Ahead: span(5, 6)}}}},
		Beams:  []api.Beam{{Spot: at(1000, 1000)}, {Spot: at(4000, 4000)}, {Spot: at(9000, 9000)}},
		Finish: 1, Fakes: 1, Misses: 1,
	}
}

// winter returns the race of the chapter's examples, changed.
func winter(change ...func(r *api.Race)) api.Race {
	r := api.Race{
		Line: line(), Sleds: ints(4, 7, 9), Draw: ints(2, 0, 1), Turn: 2,
		Heats: [][]api.Descent{{down(), fixed(2600, 2600), fixed(2580, 2609)}, {fixed(2555, 2559), fixed(2540, 2549), fixed(2570, 2575)}},
	}
	for _, c := range change {
		c(&r)
	}
	return r
}

// of returns a race of some heats, whose sleds are drawn as they are.
func of(heats ...[]api.Descent) api.Race {
	r := api.Race{Line: line(), Heats: heats}
	for i := range heats[0] {
		r.Sleds, r.Draw = append(r.Sleds, 3*i), append(r.Draw, i)
	}
	return r
}

// dice throw numbers that are the same in each run of the tests.
type dice struct{ *rand.Rand }

func newDice(seed uint64) dice { return dice{rand.New(rand.NewPCG(seed, 6))} }

func (d dice) from(lo, hi int) int { return lo + d.IntN(hi-lo+1) }

// span throws a span with ends from lo to hi that is at most wide.
func (d dice) span(lo, hi, wide int) api.Span {
	l := d.from(lo, hi)
	return span(l, min(hi, l+d.from(0, wide)))
}

// A story is all that is told of a race, but for orders of starts: sleds without a sum are not in the maps.
type story struct {
	sums         map[int]api.Span
	ranks        map[int][]int
	before, tied map[[2]int]uint8
	table        [][]int
}

// timesOf returns the times of all descents, none where there is none, word for word.
func timesOf(t *testing.T, r api.Race) [][]api.Span {
	t.Helper()
	var all [][]api.Span
	for _, heat := range r.Heats {
		var times []api.Span
		for _, d := range heat {
			switch {
			case d.Out:
				times = append(times, none())
			case d.Fixed:
				times = append(times, d.Time)
			default:
				s, e := beam.Ran(r.Line, d.Ride)
				if e != api.OK {
					t.Fatal("a ride that does not run:", r, d, e)
				}
				times = append(times, s)
			}
		}
		all = append(all, times)
	}
	return all
}

func none() api.Span { return span(0, -1) }

// left returns all sleds that are Out in none of some heats, and the times of each one in these.
func left(times [][]api.Span) map[int][]api.Span {
	all := map[int][]api.Span{}
	for sled := range times[0] {
		var own []api.Span
		for _, heat := range times {
			if heat[sled] != none() {
				own = append(own, heat[sled])
			}
		}
		if len(own) == len(times) {
			all[sled] = own
		}
	}
	return all
}

// truths goes through the sums of all sleds that have one, in all truths, word for word. The times are those of the sleds, one sled after the other.
func truths(times map[int][]api.Span, each func(sums map[int]int)) {
	sums := map[int]int{}
	var heats func(sled, heat int)
	heats = func(sled, heat int) {
		own, ok := times[sled]
		switch {
		case sled == api.MaxStarters:
			each(sums)
		case !ok || heat == len(own):
			heats(sled+1, 0)
		default:
			for n := own[heat].Lo; n <= own[heat].Hi; n++ {
				sums[sled] += n / 10
				heats(sled, heat+1)
				sums[sled] -= n / 10
			}
		}
	}
	for sled := range times {
		sums[sled] = 0
	}
	heats(0, 0)
}

// A teller puts together what truths tell.
type teller struct {
	count        int
	sums         map[int]api.Span
	ranks        map[int]map[int]bool
	before, tied map[[2]int]int
}

func newTeller() teller {
	return teller{0, map[int]api.Span{}, map[int]map[int]bool{}, map[[2]int]int{}, map[[2]int]int{}}
}

// rankOf returns the rank of a sled, word for word.
func rankOf(sums map[int]int, sled int) int {
	rank := 1
	for _, n := range sums {
		if n < sums[sled] {
			rank++
		}
	}
	return rank
}

// add adds a truth, by its sums.
func (x *teller) add(sums map[int]int) {
	x.count++
	for a, n := range sums {
		s, ok := x.sums[a]
		if !ok {
			s, x.ranks[a] = span(n, n), map[int]bool{}
		}
		x.sums[a] = span(min(n, s.Lo), max(n, s.Hi))
		x.ranks[a][rankOf(sums, a)] = true
		for b, m := range sums {
			if n < m {
				x.before[[2]int{a, b}]++
			}
			if n == m {
				x.tied[[2]int{a, b}]++
			}
		}
	}
}

// known returns what is known of something that is so in some of the truths.
func (x *teller) known(count int) uint8 {
	switch count {
	case 0:
		return api.KnownNo
	case x.count:
		return api.KnownYes
	}
	return api.KnownOpen
}

// tell returns the story.
func (x *teller) tell() story {
	s := story{x.sums, map[int][]int{}, map[[2]int]uint8{}, map[[2]int]uint8{}, nil}
	var sleds []int
	for a := range api.MaxStarters {
		if _, ok := x.sums[a]; !ok {
			continue
		}
		sleds = append(sleds, a)
		for rank := range api.MaxStarters + 2 {
			if x.ranks[a][rank] {
				s.ranks[a] = append(s.ranks[a], rank)
			}
		}
		for b := range x.sums {
			if p := [2]int{a, b}; a != b {
				s.before[p], s.tied[p] = x.known(x.before[p]), x.known(x.tied[p])
			}
		}
	}
	s.table = tableOf(sleds, s.before)
	return s
}

// tableOf returns the most groups into which sleds can be put such that each one of a group is before each one of all later groups, from all ways to put them.
func tableOf(sleds []int, before map[[2]int]uint8) [][]int {
	var best [][]int
	ways := 1
	for range sleds {
		ways *= len(sleds)
	}
	for way := range ways {
		groups := make([][]int, len(sleds))
		for _, sled := range sleds {
			groups[way%len(sleds)] = append(groups[way%len(sleds)], sled)
			way /= len(sleds)
		}
		// Groups without a sled are at the end.
		for len(groups) > 0 && len(groups[len(groups)-1]) == 0 {
			groups = groups[:len(groups)-1]
		}
		if !slices.ContainsFunc(groups, func(g []int) bool { return len(g) == 0 }) && apart(groups, before) && len(groups) > len(best) {
			best = groups
		}
	}
	return best
}

// apart tells whether each sled of a group is before each one of all later groups.
func apart(groups [][]int, before map[[2]int]uint8) bool {
	for i, g := range groups {
		for _, h := range groups[i+1:] {
			for _, a := range g {
				for _, b := range h {
					if before[[2]int{a, b}] != api.KnownYes {
						return false
					}
				}
			}
		}
	}
	return true
}

// storyOf returns the story of a race from all of its truths. It returns false if there are too many.
func storyOf(t *testing.T, r api.Race) (story, bool) {
	t.Helper()
	all := left(timesOf(t, r))
	count := 1
	for _, own := range all {
		for _, time := range own {
			if count *= time.Hi - time.Lo + 1; count > 20000 {
				return story{}, false
			}
		}
	}
	x := newTeller()
	truths(all, x.add)
	return x.tell(), true
}

// storyBySums returns the story of a race, whose times may be wide, from sums at the ends of all of them, and just above: who is before whom does not differ in between. It returns false if there are too many.
func storyBySums(t *testing.T, r api.Race) (story, bool) {
	t.Helper()
	all := map[int]api.Span{}
	for sled, times := range left(timesOf(t, r)) {
		s := span(0, 0)
		for _, time := range times {
			s = span(s.Lo+time.Lo/10, s.Hi+time.Hi/10)
		}
		all[sled] = s
	}
	near, count := map[int][]int{}, 1
	for sled, s := range all {
		for _, o := range all {
			for _, n := range ints(o.Lo, o.Lo+1, o.Hi, o.Hi+1) {
				if n >= s.Lo && n <= s.Hi && !slices.Contains(near[sled], n) {
					near[sled] = append(near[sled], n)
				}
			}
		}
		count *= len(near[sled])
	}
	if count > 10000 {
		return story{}, false
	}
	x := newTeller()
	sums := map[int]int{}
	var choose func(sled int)
	choose = func(sled int) {
		if sled == api.MaxStarters {
			x.add(sums)
			return
		}
		if _, ok := all[sled]; !ok {
			choose(sled + 1)
		}
		for _, n := range near[sled] {
			sums[sled] = n
			choose(sled + 1)
		}
	}
	choose(0)
	return x.tell(), true
}

// told returns the story that the calls tell of a valid race.
func told(t *testing.T, r api.Race) story {
	t.Helper()
	s := story{map[int]api.Span{}, map[int][]int{}, map[[2]int]uint8{}, map[[2]int]uint8{}, nil}
	has := func(e api.Errno) bool {
		if e != api.OK && e != api.ErrNone {
			t.Fatal("an error:", r, e)
		}
		return e == api.OK
	}
	for a := range r.Sleds {
		sum, e := race.Sum(r, a)
		ranks, f := race.Ranks(r, a)
		if e != f {
			t.Fatal("errors that differ:", r, a, e, f)
		}
		if has(e) {
			s.sums[a], s.ranks[a] = sum, ranks
		}
		for b := range r.Sleds {
			if a == b {
				continue
			}
			before, e := race.Before(r, a, b)
			tied, f := race.Tied(r, a, b)
			if e != f {
				t.Fatal("errors that differ:", r, a, b, e, f)
			}
			if has(e) {
				s.before[[2]int{a, b}], s.tied[[2]int{a, b}] = before, tied
			}
		}
	}
	table, e := race.Table(r)
	if e != api.OK {
		t.Fatal("an error:", r, e)
	}
	s.table = table
	return s
}

// equal compares stories; maps are written in the order of their keys, and nil as an empty list.
func equal(a, b story) bool { return fmt.Sprint(a) == fmt.Sprint(b) }

// orderOf returns the order of starts in a heat, word for word: each sled starts behind all that come before it.
func orderOf(t *testing.T, r api.Race, heat int) []int {
	t.Helper()
	if heat == 0 {
		return r.Draw
	}
	times := left(timesOf(t, r)[:heat])
	greatest := map[int]int{}
	for sled, own := range times {
		for _, time := range own {
			greatest[sled] += time.Hi / 10
		}
	}
	order := make([]int, len(times))
	for a := range times {
		place := 0
		for b := range times {
			if greatest[b] < greatest[a] || greatest[b] == greatest[a] && slices.Index(r.Draw, b) < slices.Index(r.Draw, a) {
				place++
			}
		}
		if turn := min(r.Turn, len(times)); place < turn {
			place = turn - 1 - place
		}
		order[place] = a
	}
	return order
}
