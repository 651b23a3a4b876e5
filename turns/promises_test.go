package turns_test

import (
	"fmt"
	"math"
	"slices"
	"testing"

	"kreisel/api"
	"kreisel/track"
	"kreisel/turns"
)

// P8.5: after each run, of two nations that still take part none has more than one run more, whoever drops out; and none has more than it wishes.
func TestTurnsAreFair(t *testing.T) {
	d := newDice(11)
	pairs, apart := 0, 0
	for range 3000 {
		x := d.both().Training
		l, _ := turns.Turns(x)
		if len(l) > x.Total {
			t.Error(x, l)
		}
		for runs := range len(l) + 1 {
			share, _ := turns.Share(x, runs)
			var still []int
			for nation, n := range share {
				wish := x.Nations[nation].Wish
				if n > wish {
					t.Error(x, l, runs, share)
				}
				if n < wish && !isGone(x, nation, runs) {
					still = append(still, n)
				}
			}
			if len(still) < 2 {
				continue
			}
			pairs++
			switch slices.Max(still) - slices.Min(still) {
			case 0:
			case 1:
				apart++
			default:
				t.Error(x, l, runs, share)
			}
		}
	}
	if apart < 1000 || pairs-apart < 1000 {
		t.Error("too few of a sort:", apart, pairs)
	}
}

// P8.5: a training ends only if all runs were taken, or nobody wants one.
func TestNobodyIsForgotten(t *testing.T) {
	d := newDice(12)
	for range 2000 {
		x := d.both().Training
		l, _ := turns.Turns(x)
		share, _ := turns.Share(x, len(l))
		for nation, n := range share {
			if len(l) < x.Total && n < x.Nations[nation].Wish && !isGone(x, nation, len(l)) {
				t.Error(x, l, nation)
			}
		}
	}
}

// places returns when a nation comes to its runs: by which numbers, and at which times.
func places(t *testing.T, x api.Training, nation int) (runs, times []int) {
	t.Helper()
	l, e := turns.Turns(x)
	starts, f := turns.Starts(x)
	if e != api.OK || f != api.OK {
		t.Fatal("an error:", x, e, f)
	}
	for run, n := range l {
		if n == nation {
			runs, times = append(runs, run), append(times, starts[run])
		}
	}
	return runs, times
}

// noLater tells whether each of some numbers is there in another list, where it is no greater.
func noLater(a, b []int) bool {
	for i, n := range a {
		if i >= len(b) || b[i] > n {
			return false
		}
	}
	return true
}

// P8.6: who leaves changes no run before, has none behind, and takes nothing from the others.
func TestLeaving(t *testing.T) {
	d := newDice(13)
	sorts := map[string]int{}
	for range 2500 {
		x := d.both().Training
		nation, after := d.IntN(len(x.Nations)), d.from(0, d.from(0, api.MaxTotal))
		if slices.ContainsFunc(x.Gones, func(g api.Gone) bool { return g.Nation == nation }) {
			x.Gones = nil
		}
		y := leave(t, x, nation, after)
		before, _ := turns.Turns(x)
		behind, _ := turns.Turns(y)
		n := min(after, len(before))
		if len(behind) < n || !slices.Equal(before[:n], behind[:n]) || slices.Contains(behind[n:], nation) {
			t.Error(x, nation, after, before, behind)
		}
		sorts[fmt.Sprint("same ", slices.Equal(before, behind))]++
		if len(x.Gones) > 0 {
			continue
		}
		for other := range x.Nations {
			runs, times := places(t, x, other)
			runs2, times2 := places(t, y, other)
			if other != nation && (!noLater(runs, runs2) || !noLater(times, times2)) {
				t.Error(x, nation, after, other, runs, runs2, times, times2)
			}
			sorts[fmt.Sprint("more ", len(runs2) > len(runs))]++
		}
		others := func(l []int) []int {
			return slices.DeleteFunc(slices.Clone(l), func(n int) bool { return n == nation })
		}
		a, b := others(before), others(behind)
		if len(b) < len(a) || !slices.Equal(a, b[:len(a)]) {
			t.Error(x, nation, after, before, behind)
		}
	}
	if min(sorts["same false"], sorts["same true"], sorts["more true"], sorts["more false"]) < 200 {
		t.Error("too few of a sort:", sorts)
	}
}

// P8.6: where somebody else is gone, too, a nation may have fewer runs, as that one leaves after as many of all.
func TestLeavingBesideOthers(t *testing.T) {
	x := of(3, 3, 3)
	x.Gones = []api.Gone{gone(0, 5)}
	if l, e := turns.Turns(leave(t, x, 1, 1)); !slices.Equal(l, ints(0, 2, 2, 0, 2)) || e != api.OK {
		t.Error(l, e)
	}
}

// P8.7: in as many rounds as there are nations, in all of which each takes a run, each one is the first once.
func TestEachIsTheFirstOnce(t *testing.T) {
	for nations := range api.MaxNations {
		nations++
		x := of(slices.Repeat(ints(api.MaxWish), nations)...)
		l, _ := turns.Turns(x)
		rounds := slices.Collect(slices.Chunk(l, nations))
		if len(rounds) < nations {
			t.Fatal(nations, l)
		}
		for from := range len(rounds) - nations + 1 {
			var first []int
			for _, round := range rounds[from : from+nations] {
				if len(round) == nations {
					first = append(first, round[0])
				}
				if distinct := slices.Compact(slices.Sorted(slices.Values(round))); len(distinct) != len(round) {
					t.Error(nations, round)
				}
			}
			if len(first) < nations {
				continue
			}
			slices.Sort(first)
			for i, n := range first {
				if i != n {
					t.Error(nations, from, first)
				}
			}
		}
	}
}

// P8.8: runs start one behind the other; a sled that went down comes up before it starts again, and lorries carry no more than they may.
func TestSledsAreCarriedUp(t *testing.T) {
	d := newDice(14)
	full, again := 0, 0
	for range 1500 {
		x := d.both().Training
		l, _ := turns.Turns(x)
		starts, e := turns.Starts(x)
		up, f := turns.Up(x)
		if len(starts) != len(l) || e != api.OK || f != api.OK || len(starts) > 0 && starts[0] != 0 {
			t.Fatal(x, l, starts, up, e, f)
		}
		_, leaves := startsByLorries(x)
		carried := map[int]int{}
		last := map[int][]int{} // the runs of each nation
		for run, start := range starts {
			carried[leaves[run]]++
			if run > 0 && start < starts[run-1]+x.Gap || leaves[run]%x.Every != 0 || leaves[run] < start+x.Down || carried[leaves[run]] > x.Seats {
				t.Error(x, l, starts, leaves, run)
			}
			if carried[leaves[run]] == x.Seats {
				full++
			}
			nation := l[run]
			last[nation] = append(last[nation], run)
			// The sled is that of as many runs before as there are sleds.
			if k := len(last[nation]) - 1 - x.Nations[nation].Sleds; k >= 0 {
				again++
				before := last[nation][k]
				if start < leaves[before]+up.Hi || start < starts[before]+x.Down+up.Hi {
					t.Error(x, l, starts, leaves, run, before)
				}
			}
		}
	}
	if full < 1000 || again < 1000 {
		t.Error("too few of a sort:", full, again)
	}
}

// P8.8: with more sleds, or more seats, no run starts later.
func TestMoreSledsAndSeats(t *testing.T) {
	d := newDice(15)
	earlier := map[bool]int{}
	for range 2500 {
		x := d.both().Training
		before, _ := turns.Starts(x)
		more := d.from(0, 1) == 0
		if nation := d.IntN(len(x.Nations)); more {
			x.Nations[nation].Sleds = d.from(x.Nations[nation].Sleds, api.MaxWish)
		} else {
			x.Seats = d.from(x.Seats, api.MaxSeats)
		}
		behind, e := turns.Starts(x)
		if len(before) != len(behind) || !noLater(before, behind) || e != api.OK {
			t.Error(x, before, behind, e)
		}
		if !slices.Equal(before, behind) {
			earlier[more]++
		}
	}
	if min(earlier[false], earlier[true]) < 100 {
		t.Error("too few of a sort:", earlier)
	}
}

// P8.9: a lorry's way is that of the whole run, and where this was measured it is known no worse.
func TestLorriesAndTheRun(t *testing.T) {
	d := newDice(17)
	narrower := 0
	for range 1500 {
		x := d.both().Training
		x.Athletes = nil
		x.Pace = d.from(1, api.MaxSeconds)
		marks, _ := track.Marks(x.Line.Track)
		long := marks[len(marks)-1]
		up, e := turns.Up(x)
		for i, way := range [][2]int{{up.Lo, long.Lo}, {up.Hi, long.Hi}} {
			if way[0]*1000 < way[1]*x.Pace || (way[0]-1)*1000 >= way[1]*x.Pace || e != api.OK {
				t.Error(x, up, i, e)
			}
		}
		from := d.IntN(len(marks) - 1)
		to := d.from(from+1, len(marks)-1)
		way, _, _ := track.Drop(x.Line.Track, from, to)
		value := span(d.from(way.Lo, way.Hi), 0)
		value.Hi = d.from(value.Lo, way.Hi)
		x.Line.Track, e = track.Narrow(x.Line.Track, []api.Measure{{Kind: api.MeasureLong, From: from, To: to, Value: value}})
		measured, f := turns.Up(x)
		if measured.Lo < up.Lo || measured.Hi > up.Hi || measured.Lo > measured.Hi || e != api.OK || f != api.OK {
			t.Error(x, up, measured, e, f)
		}
		if measured != up {
			narrower++
		}
	}
	if narrower < 300 {
		t.Error("too few of a sort:", narrower)
	}
}

// P8.10: as many rides truly went well as are told, and a licence that is known is right.
func TestTheTrueLicences(t *testing.T) {
	d := newDice(18)
	seen := map[string]int{}
	for range 1500 {
		x := d.both()
		wells, licences := licences(t, x.Training)
		for athlete, a := range x.Athletes {
			for i, p := range x.Permits {
				truly := 0
				for k, time := range x.times[athlete] {
					if time != never && time-a.Rides[k].Start <= p.Time {
						truly++
					}
				}
				well, known := wells[athlete][i], licences[athlete][i]
				has := a.Age >= p.Age && truly >= p.Runs
				if truly < well[0] || truly > well[1] || has && known == api.KnownNo || !has && known == api.KnownYes {
					t.Error(x, athlete, i, truly, well, known)
				}
				seen[fmt.Sprint(known, has)]++
			}
		}
	}
	for _, sort := range []string{"0 false", "1 false", "1 true", "2 true"} {
		if seen[sort] < 100 {
			t.Error("too few of a sort:", sort, seen)
		}
	}
}

// P8.10: with a longer time, or a lesser age, nobody loses a licence.
func TestLongerTimesAndLesserAges(t *testing.T) {
	d := newDice(19)
	won := map[bool]int{}
	for range 2500 {
		x := d.both().Training
		before, had := licences(t, x)
		longer := d.from(0, 1) == 0
		for i := range x.Permits {
			p := &x.Permits[i]
			if longer {
				p.Time = d.from(p.Time, min(api.MaxClock, 2*p.Time))
			} else {
				p.Age = d.from(0, p.Age)
			}
		}
		behind, have := licences(t, x)
		for athlete := range x.Athletes {
			for i := range x.Permits {
				a, b := before[athlete][i], behind[athlete][i]
				if have[athlete][i] < had[athlete][i] || b[0] < a[0] || b[1] < a[1] || !longer && a != b {
					t.Error(x, before, behind, had, have, athlete, i)
				}
				if have[athlete][i] > had[athlete][i] {
					won[longer]++
				}
			}
		}
	}
	if min(won[false], won[true]) < 50 {
		t.Error("too few of a sort:", won)
	}
}

// P8.10: a sync more of a clock takes no licence that was known, nor makes less known.
func TestSyncsMore(t *testing.T) {
	d := newDice(20)
	more := 0
	for range 2500 {
		s := []size{small(), great()}[d.IntN(2)]
		x := d.training(s)
		before, had := licences(t, x.Training)
		clock := d.IntN(len(x.clocks))
		c := &x.Line.Clocks[clock]
		time := d.from(0, 2*s.start)
		if slices.ContainsFunc(c.Syncs, func(y api.Sync) bool { return y.At == time }) {
			continue
		}
		c.Syncs = append(c.Syncs, d.sync(x.clocks[clock], time, s.wide))
		slices.SortFunc(c.Syncs, func(a, b api.Sync) int { return a.At - b.At })
		behind, have := licences(t, x.Training)
		for athlete := range x.Athletes {
			for i := range x.Permits {
				a, b := had[athlete][i], have[athlete][i]
				wide, narrow := before[athlete][i], behind[athlete][i]
				if a != api.KnownOpen && a != b || narrow[0] < wide[0] || narrow[1] > wide[1] {
					t.Error(x, before, behind, had, have, athlete, i)
				}
				if a != b {
					more++
				}
			}
		}
	}
	if more < 30 {
		t.Error("too few of a sort:", more)
	}
}

// R5, P8.1 to P8.4: no number overflows, and no call takes long, at the greatest numbers that are allowed.
func TestGreatestNumbers(t *testing.T) {
	x := of(slices.Repeat(ints(api.MaxWish), api.MaxNations)...)
	x.Line.Track.Stretches = nil
	for i := range api.MaxStretches {
		x.Line.Track.Stretches = append(x.Line.Track.Stretches, api.Stretch{Id: api.MaxId - 11 + i, Long: span(api.MaxLong, api.MaxLong)})
	}
	x.Line.Beams = nil
	for i := range api.MaxBeams {
		x.Line.Beams = append(x.Line.Beams, api.Beam{Spot: spot(1000*i+1, 1000*i+10)})
	}
	x.Line.Finish, x.Line.Fakes, x.Line.Misses = 5, api.MaxFakes, api.MaxMisses
	x.Gap, x.Down, x.Every, x.Seats, x.Pace = api.MaxSeconds, api.MaxSeconds, api.MaxSeconds, 1, api.MaxSeconds
	r := ride(0, api.MaxClock)
	for i := range 8 {
		r.Signals = append(r.Signals, sig(i*6/9, 1000000+i*7000))
	}
	for i := range api.MaxAthletes {
		x.Athletes = append(x.Athletes, api.Athlete{Id: api.MaxId - 5 + i, Nation: i, Age: api.MaxAge, Rides: slices.Repeat([]api.Ride{r}, api.MaxRides)})
	}
	for i := range x.Permits {
		x.Permits[i] = permit(api.MaxAge, api.MaxRides, api.MaxClock)
	}
	for range 5 {
		s := told(t, x)
		if !equal(s, storyOf(x, byBeams)) || len(s.turns) != api.MaxTotal || s.up != span(1296000, 1296000) {
			t.Error(s)
		}
	}
	// A nation with one sled, which is up again 361 lorries later.
	x.Nations, x.Athletes = x.Nations[:1], nil
	starts, e := turns.Starts(x)
	for i, n := range starts {
		if n != 361*3600*i || e != api.OK {
			t.Error(i, n, e)
		}
	}
	if len(starts) != api.MaxWish {
		t.Error(starts)
	}
}

// R3: no argument is written to, nor the memory behind its end.
func TestNoArgumentIsWrittenTo(t *testing.T) {
	x, wanted := ask(), ask()
	l := &x.t.Line
	stretches := append(l.Track.Stretches, api.Stretch{Id: 4}, api.Stretch{Id: 44})
	clocks := append(l.Clocks, api.Clock{Drift: 4}, api.Clock{Drift: 44})
	syncs := append(l.Clocks[0].Syncs, api.Sync{At: 4}, api.Sync{At: 44})
	beams := append(l.Beams, api.Beam{Clock: 4}, api.Beam{Clock: 44})
	nations := append(x.t.Nations, api.Nation{Id: 4}, api.Nation{Id: 44})
	gones := append(x.t.Gones, gone(4, 4), gone(44, 44))
	athletes := append(x.t.Athletes, api.Athlete{Id: 4}, api.Athlete{Id: 44})
	rides := append(x.t.Athletes[0].Rides, ride(4, 4), ride(44, 44))
	signals := append(x.t.Athletes[0].Rides[0].Signals, sig(4, 4), sig(44, 44))
	l.Track.Stretches, l.Clocks, l.Beams = stretches[:1], clocks[:1], beams[:3]
	clocks[0].Syncs = syncs[:2]
	x.t.Nations, x.t.Gones, x.t.Athletes = nations[:3], gones[:1], athletes[:2]
	athletes[0].Rides, rides[0].Signals = rides[:2], signals[:3]
	text := func() string {
		return fmt.Sprint(stretches, clocks, syncs, beams, nations, gones, athletes, rides, signals)
	}
	before := text()
	for nation := range 3 {
		for class := range 4 {
			x.runs, x.nation, x.athlete, x.class = class, nation, nation, class
			calls(x)
			if text() != before || fmt.Sprint(x.t) != fmt.Sprint(wanted.t) {
				t.Error(nation, class, text(), before)
			}
		}
	}
}

// R4: a nil list and an empty one are the same.
func TestNilAndEmpty(t *testing.T) {
	for i, x := range []struct {
		change func(x *asked, none bool)
		e      api.Errno
	}{
		{func(x *asked, none bool) { x.t.Nations = map[bool][]api.Nation{false: {}}[none] }, api.ErrTraining},
		{func(x *asked, none bool) { x.t.Gones = map[bool][]api.Gone{false: {}}[none] }, api.OK},
		{func(x *asked, none bool) { x.t.Athletes = map[bool][]api.Athlete{false: {}}[none] }, api.OK},
		{func(x *asked, none bool) { x.t.Athletes[0].Rides = map[bool][]api.Ride{false: {}}[none] }, api.OK},
		{func(x *asked, none bool) {
			x.t.Athletes[0].Rides[0].Signals = map[bool][]api.Signal{false: {}}[none]
			x.t.Athletes[0].Rides[0].Now = 11000
		}, api.OK},
		{func(x *asked, none bool) { x.t.Line.Beams = map[bool][]api.Beam{false: {}}[none] }, api.ErrLine},
	} {
		y, z := ask(), ask()
		x.change(&y, true)
		x.change(&z, false)
		a, b := calls(y), calls(z)
		if !slices.Equal(a, b) || a[0].e != x.e {
			t.Error(i, a, b)
		}
	}
}

// spoil writes to all memory of results.
func spoil(x asked) {
	list, _ := turns.Turns(x.t)
	share, _ := turns.Share(x.t, x.runs)
	starts, _ := turns.Starts(x.t)
	waits, _ := turns.Waits(x.t)
	team, _ := turns.Team(x.t, x.nation, x.class)
	for _, numbers := range [][]int{list, share, starts, waits, team} {
		clear(numbers[:cap(numbers)])
	}
	left, _ := turns.Leave(x.t, x.nation, x.after)
	spoilTraining(left)
}

// spoilTraining writes to all memory of a training.
func spoilTraining(t api.Training) {
	for _, a := range t.Athletes {
		for _, r := range a.Rides {
			clear(r.Signals[:cap(r.Signals)])
		}
		clear(a.Rides[:cap(a.Rides)])
	}
	l := t.Line
	for _, c := range l.Clocks {
		clear(c.Syncs[:cap(c.Syncs)])
	}
	clear(t.Athletes[:cap(t.Athletes)])
	clear(t.Nations[:cap(t.Nations)])
	clear(t.Gones[:cap(t.Gones)])
	clear(l.Clocks[:cap(l.Clocks)])
	clear(l.Beams[:cap(l.Beams)])
	clear(l.Track.Stretches[:cap(l.Track.Stretches)])
}

// R3: a result shares no memory with an argument, nor with another one, and nothing is remembered from one call to another.
func TestCallsAreTheSameAgain(t *testing.T) {
	d := newDice(21)
	var list []asked
	var first [][]result
	for range 200 {
		x := asked{d.both().Training, d.from(0, 5), 0, d.from(0, api.MaxTotal), d.from(0, 2), d.from(1, api.Classes)}
		x.nation = d.IntN(len(x.t.Nations))
		list, first = append(list, x), append(first, calls(x))
	}
	for i := len(list) - 1; i >= 0; i-- {
		spoil(list[i])
		for range 3 {
			if again := calls(list[i]); !slices.Equal(again, first[i]) {
				t.Error(list[i], again, first[i])
			}
		}
	}
}

// R3: a training that somebody leaves has memory of its own, also where lists of the argument share theirs.
func TestTrainingsShareNothing(t *testing.T) {
	x := ask().t
	rides := []api.Ride{down(), down()}
	rides[1].Signals = rides[0].Signals
	x.Athletes[0].Rides, x.Athletes[1].Rides = rides, rides
	text := fmt.Sprint(x)
	a, b := leave(t, x, 0, 5), leave(t, x, 0, 5)
	want := fmt.Sprint(b)
	spoilTraining(a)
	if fmt.Sprint(x) != text || fmt.Sprint(b) != want {
		t.Error(x, b)
	}
	for athlete := range 2 {
		for i := range 2 {
			b.Athletes[athlete].Rides[i].Signals[0].Read = 10*athlete + i
		}
	}
	for athlete := range 2 {
		for i := range 2 {
			if n := b.Athletes[athlete].Rides[i].Signals[0].Read; n != 10*athlete+i {
				t.Error(athlete, i, n)
			}
		}
	}
	if fmt.Sprint(x) != text {
		t.Error(x)
	}
}

// R5, R7: no call panics, whatever its arguments are.
func TestNoCallPanics(t *testing.T) {
	d := newDice(22)
	ends := []int{math.MinInt, -10000, -1, 0, 1, 2, 3, 4, 5, 6, 7, 10, 11, 40, 41, 99, 100, 3600, 3601, 9999, 10000, 86400000, 86400001, math.MaxInt}
	pick := func() int { return ends[d.IntN(len(ends))] }
	for range 4000 {
		x := asked{d.both().Training, pick(), pick(), pick(), pick(), pick()}
		switch d.from(0, 10) {
		case 0:
			x.t.Total, x.t.Seats = pick(), pick()
		case 1:
			x.t.Gap, x.t.Down, x.t.Every, x.t.Pace = pick(), pick(), pick(), pick()
		case 2:
			x.t.Nations = append(x.t.Nations, api.Nation{Id: pick(), Wish: pick(), Sleds: pick()})
		case 3:
			x.t.Nations = slices.Repeat(x.t.Nations, d.from(0, 3))
		case 4:
			x.t.Gones = append(x.t.Gones, gone(pick(), pick()))
		case 5:
			x.t.Gones = slices.Repeat(x.t.Gones, d.from(0, 3))
		case 6:
			r := ride(pick(), pick(), slices.Repeat([]api.Signal{sig(pick(), pick())}, d.from(0, 12))...)
			x.t.Athletes = append(x.t.Athletes, api.Athlete{Id: pick(), Nation: pick(), Age: pick(), Rides: slices.Repeat([]api.Ride{r}, d.from(0, 5))})
		case 7:
			x.t.Athletes = slices.Repeat(x.t.Athletes, d.from(0, 3))
		case 8:
			x.t.Permits[d.IntN(api.Classes)] = permit(pick(), pick(), pick())
		case 9:
			x.t.Line.Finish, x.t.Line.Misses = pick(), pick()
		case 10:
			x.t.Line.Beams = slices.Repeat(x.t.Line.Beams, d.from(0, 2))
		}
		calls(x)
	}
}
