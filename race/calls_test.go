package race_test

import (
	"fmt"
	"slices"
	"testing"

	"kreisel/api"
	"kreisel/race"
)

// P6.1: the chapter's examples of times and sums.
func TestExamplesOfTimesAndSums(t *testing.T) {
	if s, e := race.Time(winter(), 0, 0); s != span(2596, 2602) || e != api.OK {
		t.Error(s, e)
	}
	for i, want := range []api.Span{span(514, 515), span(514, 514), span(515, 517)} {
		if s, e := race.Sum(winter(), i); s != want || e != api.OK {
			t.Error(i, s, e)
		}
	}
}

// P6.3, P6.4: the chapter's examples of ranks.
func TestExamplesOfRanks(t *testing.T) {
	for i, want := range [][]int{{1, 2}, {1}, {2, 3}} {
		if l, e := race.Ranks(winter(), i); !slices.Equal(l, want) || e != api.OK {
			t.Error(i, l, e)
		}
	}
	for i, x := range []struct {
		by   func(r api.Race, a, b int) (uint8, api.Errno)
		a, b int
		want uint8
	}{
		{race.Before, 1, 2, api.KnownYes}, {race.Before, 0, 1, api.KnownNo}, {race.Before, 0, 2, api.KnownOpen}, {race.Tied, 0, 1, api.KnownOpen}, {race.Tied, 1, 2, api.KnownNo},
	} {
		if k, e := x.by(winter(), x.a, x.b); k != x.want || e != api.OK {
			t.Error(i, k, e)
		}
	}
	if l, e := race.Table(winter()); fmt.Sprint(l) != "[[0 1 2]]" || e != api.OK {
		t.Error(l, e)
	}
}

// P6.5: the chapter's examples of a time that is repaired.
func TestExamplesOfARepair(t *testing.T) {
	r, e := race.Repair(winter(), 0, 2, span(2590, 2599))
	want := winter(func(r *api.Race) { r.Heats[0][2].Time = span(2590, 2599) })
	if fmt.Sprint(r) != fmt.Sprint(want) || e != api.OK {
		t.Fatal(r, e)
	}
	if s, e := race.Sum(r, 2); s != span(516, 516) || e != api.OK {
		t.Error(s, e)
	}
	if l, e := race.Table(r); fmt.Sprint(l) != "[[0 1] [2]]" || e != api.OK {
		t.Error(l, e)
	}
	if l, e := race.Touched(winter(), 0, 2, span(2590, 2599)); !slices.Equal(l, ints(2)) || e != api.OK {
		t.Error(l, e)
	}
}

// P6.2: the chapter's examples of orders of starts.
func TestExamplesOfOrders(t *testing.T) {
	for heat, want := range [][]int{{2, 0, 1}, {0, 2, 1}, {0, 1, 2}} {
		if l, e := race.Order(winter(), heat); !slices.Equal(l, want) || e != api.OK {
			t.Error(heat, l, e)
		}
	}
}

// P6.1: a descent has the time that is told, that of its ride, or none; a sled that is out once has no sum.
func TestTimesByKinds(t *testing.T) {
	r := of([]api.Descent{down(), out(), fixed(1, 1), fixed(7, 600000)}, []api.Descent{out(), fixed(7, 8), down(), down()})
	for i, want := range [][]api.Span{{span(2596, 2602), {}, span(1, 1), span(7, 600000)}, {{}, span(7, 8), span(2596, 2602), span(2596, 2602)}} {
		for sled, want := range want {
			s, e := race.Time(r, i, sled)
			if s != want || (e == api.ErrNone) != (want == span(0, 0)) || e != api.OK && e != api.ErrNone {
				t.Error(i, sled, s, e)
			}
		}
	}
	for sled, want := range []api.Span{{}, {}, span(259, 260), span(259, 60260)} {
		s, e := race.Sum(r, sled)
		l, f := race.Ranks(r, sled)
		if s != want || (e == api.ErrNone) != (sled < 2) || e != f || sled >= 2 && !slices.Equal(l, ints(1, 2)) {
			t.Error(sled, s, e, l, f)
		}
	}
	if l, e := race.Table(r); fmt.Sprint(l) != "[[2 3]]" || e != api.OK {
		t.Error(l, e)
	}
}

// P6.1: thousandths are cut off descent by descent, also those below 10.
func TestSumsAreInHundredths(t *testing.T) {
	for i, x := range []struct {
		times []api.Span
		want  api.Span
	}{
		{[]api.Span{span(1, 9)}, span(0, 0)}, {[]api.Span{span(9, 10)}, span(0, 1)}, {[]api.Span{span(10, 19)}, span(1, 1)}, {[]api.Span{span(19, 19), span(19, 19), span(19, 19)}, span(3, 3)}, {[]api.Span{span(15, 15), span(15, 15)}, span(2, 2)}, {[]api.Span{span(11, 20), span(29, 30)}, span(3, 5)}, {[]api.Span{span(600000, 600000), span(600000, 600000), span(599999, 599999)}, span(179999, 179999)},
	} {
		var heats [][]api.Descent
		for _, s := range x.times {
			heats = append(heats, []api.Descent{{Fixed: true, Time: s}})
		}
		if s, e := race.Sum(of(heats...), 0); s != x.want || e != api.OK {
			t.Error(i, s, e)
		}
	}
}

// P6.3: ranks may have gaps; ranks of those that are tied are the least one.
func TestRanksWithGaps(t *testing.T) {
	for i, x := range []struct {
		heat []api.Descent
		want [][]int
	}{
		// One sled is before two that are tied, or behind both.
		{[]api.Descent{fixed(100, 100), fixed(100, 100), fixed(90, 119)}, [][]int{{1, 2}, {1, 2}, {1, 3}}},
		{[]api.Descent{fixed(100, 100), fixed(100, 100), fixed(100, 109), fixed(100, 100), fixed(100, 110)}, [][]int{{1}, {1}, {1}, {1}, {1, 5}}},
		{[]api.Descent{fixed(100, 100), fixed(100, 100), fixed(300, 300), fixed(300, 300), fixed(90, 310)}, [][]int{{1, 2}, {1, 2}, {3, 4}, {3, 4}, {1, 3, 5}}},
		{[]api.Descent{fixed(200, 200), out(), fixed(200, 209), fixed(210, 210), fixed(200, 200)}, [][]int{{1}, nil, {1}, {4}, {1}}},
	} {
		for sled, want := range x.want {
			l, e := race.Ranks(of(x.heat), sled)
			if !slices.Equal(l, want) || (e == api.OK) != (want != nil) {
				t.Error(i, sled, l, e)
			}
		}
	}
}

// P6.3: who is before whom, and who is tied, at the ends of sums.
func TestSumsThatMeet(t *testing.T) {
	for i, x := range []struct {
		a, b          api.Span
		before, after uint8
		tied          uint8
	}{
		{span(100, 119), span(120, 139), 2, 0, 0}, {span(100, 119), span(110, 139), 1, 0, 1}, {span(100, 119), span(100, 119), 1, 1, 1}, {span(100, 100), span(109, 109), 0, 0, 2}, {span(100, 100), span(100, 110), 1, 0, 1}, {span(100, 100), span(110, 110), 2, 0, 0}, {span(100, 109), span(100, 119), 1, 0, 1}, {span(110, 119), span(100, 119), 0, 1, 1}, {span(100, 139), span(110, 129), 1, 1, 1},
	} {
		r := of([]api.Descent{{Fixed: true, Time: x.a}, out(), {Fixed: true, Time: x.b}})
		before, e := race.Before(r, 0, 2)
		after, f := race.Before(r, 2, 0)
		tied, g := race.Tied(r, 0, 2)
		again, h := race.Tied(r, 2, 0)
		if before != x.before || after != x.after || tied != x.tied || again != x.tied || e != api.OK || f != api.OK || g != api.OK || h != api.OK {
			t.Error(i, before, after, tied, again, e, f, g, h)
		}
	}
}

// P6.4: groups are parted where all sums of the ones are less than all of the others.
func TestTables(t *testing.T) {
	for i, x := range []struct {
		heat []api.Descent
		want string
	}{
		{[]api.Descent{out()}, "[]"}, {[]api.Descent{fixed(5, 5)}, "[[0]]"}, {[]api.Descent{fixed(9, 9), fixed(3, 3)}, "[[0 1]]"}, {[]api.Descent{fixed(10, 10), fixed(9, 9)}, "[[1] [0]]"},
		{[]api.Descent{fixed(300, 300), fixed(200, 200), out(), fixed(100, 100)}, "[[3] [1] [0]]"},
		// The first one and the last one are apart, but for the one in between.
		{[]api.Descent{fixed(300, 300), fixed(100, 309), fixed(100, 100)}, "[[0 1 2]]"}, {[]api.Descent{fixed(300, 300), fixed(110, 299), fixed(100, 100)}, "[[2] [1] [0]]"},
		// A wide one joins all that come before its greatest sum.
		{[]api.Descent{fixed(100, 400), fixed(110, 120), fixed(130, 140), fixed(400, 410), fixed(420, 430)}, "[[0 1 2 3] [4]]"}, {[]api.Descent{fixed(400, 420), fixed(410, 420), fixed(130, 140), fixed(420, 430), fixed(140, 150)}, "[[2 4] [0 1 3]]"},
	} {
		if l, e := race.Table(of(x.heat)); fmt.Sprint(l) != x.want || e != api.OK {
			t.Error(i, l, e)
		}
	}
}

// P6.2: greatest sums count, of equal ones the draw; those that are out do not start any more; the first ones turn round, in no heat before the second one.
func TestOrders(t *testing.T) {
	first := []api.Descent{fixed(1500, 1500), fixed(1490, 1499), fixed(1400, 1509), out(), fixed(1, 1510)}
	second := []api.Descent{fixed(10, 10), out(), fixed(1, 40), fixed(1, 1), fixed(10, 10)}
	for i, x := range []struct {
		turn, heat int
		want       []int
	}{
		{0, 0, ints(4, 3, 2, 1, 0)}, {5, 0, ints(4, 3, 2, 1, 0)},
		// 1 has 149 at most, 0 and 2 have 150, 4 has 151.
		{0, 1, ints(1, 2, 0, 4)}, {1, 1, ints(1, 2, 0, 4)}, {2, 1, ints(2, 1, 0, 4)}, {3, 1, ints(0, 2, 1, 4)}, {4, 1, ints(4, 0, 2, 1)}, {5, 1, ints(4, 0, 2, 1)},
		// 0 has 151, 2 154, 4 152.
		{0, 2, ints(0, 4, 2)}, {2, 2, ints(4, 0, 2)}, {3, 2, ints(2, 4, 0)}, {5, 2, ints(2, 4, 0)},
	} {
		r := of(first, second)
		r.Draw, r.Turn = ints(4, 3, 2, 1, 0), x.turn
		if l, e := race.Order(r, x.heat); !slices.Equal(l, x.want) || e != api.OK {
			t.Error(i, l, e)
		}
	}
	r := of([]api.Descent{out(), out()})
	if l, e := race.Order(r, 1); len(l) != 0 || e != api.OK {
		t.Error(l, e)
	}
	three := of(first, second, first)
	if l, e := race.Order(three, 3); !slices.Equal(l, ints(0, 4, 2)) || e != api.OK {
		t.Error(l, e)
	}
}

// P6.1 to P6.4, P6.6: what is told of small races, from all of their truths; and of others, from all sums that matter.
func TestStoriesWordForWord(t *testing.T) {
	d := newDice(1)
	allGaps := 0
	for i, x := range []struct {
		spread, wide int
		find         func(t *testing.T, r api.Race) (story, bool)
	}{{15, 15, storyOf}, {60, 12, storyOf}, {100, 40, storyBySums}, {3000, 400, storyBySums}} {
		found, groups, gaps, sums := 0, map[int]int{}, 0, map[int]int{}
		for range 1000 {
			r := d.race(x.spread, x.wide)
			want, ok := x.find(t, r.Race)
			if !ok {
				continue
			}
			if s := told(t, r.Race); !equal(s, want) {
				t.Fatal(i, r, s, want)
			}
			found++
			groups[len(want.table)]++
			sums[len(want.sums)]++
			for _, l := range want.ranks {
				if l[len(l)-1]-l[0] >= len(l) {
					gaps++
				}
			}
		}
		if found < 500 || groups[1] < 200 || groups[2] < 50 || slices.Min([]int{sums[0], sums[1], sums[2], sums[3]}) < 10 {
			t.Error(i, "too few of a sort:", found, groups, sums)
		}
		allGaps += gaps
	}
	if allGaps < 20 {
		t.Error("too few ranks with gaps:", allGaps)
	}
}

// P6.2, P6.10: orders of starts, word for word.
func TestOrdersWordForWord(t *testing.T) {
	d := newDice(2)
	turned, equals := 0, 0
	for range 1000 {
		r := d.both()
		for heat := range len(r.Heats) + 1 {
			want := orderOf(t, r.Race, heat)
			if l, e := race.Order(r.Race, heat); !slices.Equal(l, want) || e != api.OK {
				t.Error(r, heat, l, e, want)
			}
			still := r.Race
			still.Turn = 0
			if l, _ := race.Order(still, heat); !slices.Equal(l, want) {
				turned++
			}
			slices.Reverse(still.Draw)
			if l, _ := race.Order(still, heat); heat > 0 && !slices.Equal(l, orderOf(t, r.Race, heat)) {
				equals++
			}
		}
	}
	if turned < 300 || equals < 300 {
		t.Error("too few of a sort:", turned, equals)
	}
}

// P6.5: a race is repaired in one descent, and told anew.
func TestRepairsWordForWord(t *testing.T) {
	d := newDice(3)
	repaired, touched, bad := 0, 0, 0
	for range 1000 {
		r := d.both()
		heat, sled, time := d.IntN(len(r.Heats)), d.IntN(len(r.Sleds)), d.span(1, api.MaxTime, 20)
		if old := timesOf(t, r.Race)[heat][sled]; old != none() {
			time = d.span(max(1, old.Lo-30), old.Hi+30, 40)
		}
		text := fmt.Sprint(r.Race)
		y, e := race.Repair(r.Race, heat, sled, time)
		l, f := race.Touched(r.Race, heat, sled, time)
		if fmt.Sprint(r.Race) != text {
			t.Error("an argument that was written to:", r, text)
		}
		if r.Heats[heat][sled].Out {
			if e != api.ErrBad || f != api.ErrBad || fmt.Sprint(y) != fmt.Sprint(api.Race{}) || len(l) != 0 {
				t.Error(r, heat, sled, time, y, e, l, f)
			}
			bad++
			continue
		}
		want := r.Race
		want.Heats = slices.Clone(r.Heats)
		want.Heats[heat] = slices.Clone(r.Heats[heat])
		want.Heats[heat][sled] = api.Descent{Fixed: true, Time: time}
		if fmt.Sprint(y) != fmt.Sprint(want) || e != api.OK || f != api.OK || race.Check(y) != api.OK {
			t.Error(r, heat, sled, time, y, e, f)
		}
		before, after := told(t, r.Race), told(t, want)
		var others []int
		for i := range r.Sleds {
			if !slices.Equal(before.ranks[i], after.ranks[i]) {
				others = append(others, i)
			}
		}
		if !slices.Equal(l, others) {
			t.Error(r, heat, sled, time, l, others)
		}
		repaired, touched = repaired+1, touched+len(l)
	}
	if repaired < 500 || touched < 300 || bad < 100 {
		t.Error("too few of a sort:", repaired, touched, bad)
	}
}
