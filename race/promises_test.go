package race_test

import (
	"fmt"
	"math"
	"slices"
	"testing"

	"kreisel/api"
	"kreisel/race"
)

// valid reports a race that is none: all that are thrown have to be.
func valid(t *testing.T, r api.Race) {
	t.Helper()
	if e := race.Check(r); e != api.OK {
		t.Fatal("not a race:", r, e)
	}
}

// P6.6: whatever the true times are, each time, sum and rank is told, and who is told to be before another one is, and who is not is not; groups of the table are in order.
func TestTheTrueResultIsTold(t *testing.T) {
	d := newDice(11)
	before, rides, missed := map[uint8]int{}, 0, 0
	for range 1200 {
		r := d.both()
		valid(t, r.Race)
		for heat, times := range r.times {
			for sled, time := range times {
				s, e := race.Time(r.Race, heat, sled)
				if e == api.OK && (time < s.Lo || time > s.Hi) || e != api.OK && (!r.Heats[heat][sled].Out || e != api.ErrNone) {
					t.Error("Time:", r, heat, sled, s, e)
				}
				if x := r.Heats[heat][sled]; !x.Out && !x.Fixed {
					rides++
					missed += s.Hi - s.Lo
				}
			}
		}
		sums, s := r.sums(), told(t, r.Race)
		if len(sums) != len(s.sums) {
			t.Error("Sum:", r, s)
		}
		place := map[int]int{}
		for i, group := range s.table {
			for _, sled := range group {
				place[sled] = i
			}
		}
		for a, n := range sums {
			if n < s.sums[a].Lo || n > s.sums[a].Hi || !slices.Contains(s.ranks[a], rankOf(sums, a)) {
				t.Error("Sum, Ranks:", r, a, s)
			}
			for b, m := range sums {
				if a == b {
					continue
				}
				p := [2]int{a, b}
				if s.before[p] == api.KnownYes && n >= m || s.before[p] == api.KnownNo && n < m || place[a] < place[b] && n >= m {
					t.Error("Before, Table:", r, p, s)
				}
				before[s.before[p]]++
			}
		}
	}
	if before[0] < 500 || before[1] < 500 || before[2] < 500 || rides < 1000 || missed < rides {
		t.Error("too few of a sort:", before, rides, missed)
	}
}

// P6.6: each rank that is told comes about, with times that can be found: some sleds as early as they can be, and all others as late.
func TestRanksComeAbout(t *testing.T) {
	d := newDice(12)
	for range 1000 {
		r := d.both()
		s := told(t, r.Race)
		for a, ranks := range s.ranks {
			found := map[int]bool{}
			for own := s.sums[a].Lo; own <= s.sums[a].Hi; own++ {
				for set := range 1 << len(r.Sleds) {
					sums := map[int]int{}
					for b, sum := range s.sums {
						sums[b] = []int{sum.Lo, sum.Hi}[set>>b&1]
					}
					sums[a] = own
					found[rankOf(sums, a)] = true
				}
			}
			for rank := range api.MaxStarters + 2 {
				if slices.Contains(ranks, rank) != found[rank] {
					t.Error(r, a, s, found)
				}
			}
		}
	}
}

// P6.7: who is told to be tied has equal sums in each truth, and both have the same ranks; who may not be has not.
func TestTiesAreTies(t *testing.T) {
	d := newDice(13)
	seen := map[uint8]int{}
	for range 1200 {
		r := d.both()
		sums, s := r.sums(), told(t, r.Race)
		for p, tied := range s.tied {
			a, b := p[0], p[1]
			if tied == api.KnownYes && (sums[a] != sums[b] || !slices.Equal(s.ranks[a], s.ranks[b]) || s.sums[a] != s.sums[b]) || tied == api.KnownNo && sums[a] == sums[b] || tied != s.tied[[2]int{b, a}] {
				t.Error(r, p, s)
			}
			if tied == api.KnownYes && s.before[p] != api.KnownNo {
				t.Error(r, p, s)
			}
			seen[tied]++
		}
	}
	if seen[0] < 500 || seen[1] < 500 || seen[2] < 30 {
		t.Error("too few of a sort:", seen)
	}
}

// repair throws a heat and a sled of a race that is not out, with its time; false if there is none in a few throws.
func (d dice) repair(r api.Race) (heat, sled int, old api.Span, ok bool) {
	for range 5 {
		heat, sled = d.IntN(len(r.Heats)), d.IntN(len(r.Sleds))
		if old, e := race.Time(r, heat, sled); e == api.OK {
			return heat, sled, old, true
		}
	}
	return 0, 0, api.Span{}, false
}

// P6.8: who was surely before a sled whose time is repaired, and is, or was surely behind, and is, has the same ranks.
func TestRepairsTouchJustWhomTheyCould(t *testing.T) {
	d := newDice(14)
	kept, touched := 0, 0
	for range 1200 {
		r := d.both()
		heat, sled, old, ok := d.repair(r.Race)
		if !ok {
			continue
		}
		time := d.span(max(1, old.Lo-100), old.Hi+100, 40)
		y, e := race.Repair(r.Race, heat, sled, time)
		l, f := race.Touched(r.Race, heat, sled, time)
		if e != api.OK || f != api.OK || !slices.IsSorted(l) {
			t.Fatal(r, heat, sled, time, e, l, f)
		}
		was, is := told(t, r.Race), told(t, y)
		touched += len(l)
		for other := range was.sums {
			there, back := [2]int{other, sled}, [2]int{sled, other}
			if was.before[there] == api.KnownYes && is.before[there] == api.KnownYes || was.before[back] == api.KnownYes && is.before[back] == api.KnownYes {
				kept++
				if slices.Contains(l, other) || !slices.Equal(was.ranks[other], is.ranks[other]) {
					t.Error(r, heat, sled, time, other, l)
				}
			}
		}
		// Who is out in some heat has no place.
		if _, ok := was.sums[sled]; !ok && len(l) > 0 {
			t.Error(r, heat, sled, time, l)
		}
	}
	if kept < 500 || touched < 500 {
		t.Error("too few of a sort:", kept, touched)
	}
}

// P6.8: with a narrower time nobody has a rank that was not told before, and with the same one nobody is touched.
func TestNarrowerTimes(t *testing.T) {
	d := newDice(15)
	touched := 0
	for range 1200 {
		r := d.both()
		heat, sled, old, ok := d.repair(r.Race)
		if !ok || old.Hi > api.MaxTime {
			continue
		}
		time := d.span(old.Lo, old.Hi, d.from(0, old.Hi-old.Lo))
		y, e := race.Repair(r.Race, heat, sled, time)
		l, f := race.Touched(r.Race, heat, sled, time)
		if e != api.OK || f != api.OK {
			t.Fatal(r, heat, sled, time, e, f)
		}
		was, is := told(t, r.Race), told(t, y)
		for a, ranks := range is.ranks {
			for _, rank := range ranks {
				if !slices.Contains(was.ranks[a], rank) {
					t.Error(r, heat, sled, time, a, was, is)
				}
			}
		}
		touched += len(l)
		if l, e := race.Touched(r.Race, heat, sled, old); len(l) > 0 || e != api.OK {
			t.Error(r, heat, sled, old, l, e)
		}
	}
	if touched < 100 {
		t.Error("too few that are touched:", touched)
	}
}

// P6.4, P6.9: each sled with a sum is in one group, in increasing order, no two groups are not apart, and nothing can part a group.
func TestGroupsAreThoseThatNothingCanPart(t *testing.T) {
	d := newDice(16)
	several := 0
	for range 1200 {
		r := d.both()
		s := told(t, r.Race)
		in := 0
		for i, group := range s.table {
			if len(group) == 0 || !slices.IsSorted(group) {
				t.Error(r, s)
			}
			for _, sled := range group {
				if _, ok := s.sums[sled]; ok {
					in++
				}
			}
			for set := 1; set < 1<<len(group)-1; set++ {
				parts := [][]int{nil, nil}
				for k, sled := range group {
					parts[set>>k&1] = append(parts[set>>k&1], sled)
				}
				if apart(parts, s.before) {
					t.Error("a group that can be parted:", r, s, i, parts)
				}
				several++
			}
		}
		once := slices.Compact(slices.Sorted(slices.Values(slices.Concat(s.table...))))
		if in != len(s.sums) || len(once) != in || len(slices.Concat(s.table...)) != in || !apart(s.table, s.before) {
			t.Error(r, s)
		}
	}
	if several < 500 {
		t.Error("too few groups of several:", several)
	}
}

// P6.10: an order is of all sleds that are left, each one once; it turns round at its beginning alone, and in no first heat.
func TestOrdersAreOfAllThatAreLeft(t *testing.T) {
	d := newDice(17)
	for range 1000 {
		r := d.both()
		for heat := range len(r.Heats) + 1 {
			var want []int
			for sled := range r.Sleds {
				if !slices.ContainsFunc(r.Heats[:heat], func(l []api.Descent) bool { return l[sled].Out }) {
					want = append(want, sled)
				}
			}
			l, e := race.Order(r.Race, heat)
			if !slices.Equal(slices.Sorted(slices.Values(l)), want) || e != api.OK {
				t.Error(r, heat, l, e)
			}
			still := r.Race
			still.Turn = 0
			straight, _ := race.Order(still, heat)
			if heat > 0 {
				slices.Reverse(straight[:min(r.Turn, len(straight))])
			}
			if !slices.Equal(l, straight) || heat == 0 && !slices.Equal(l, r.Draw) {
				t.Error(r, heat, l, straight)
			}
		}
	}
}

// P6.10: an order depends on the heats before alone.
func TestOrdersDependOnHeatsBefore(t *testing.T) {
	d := newDice(18)
	other := 0
	for range 1000 {
		r := d.both()
		heat := d.IntN(len(r.Heats) + 1)
		before, _ := race.Order(r.Race, heat)
		y := r.Race
		y.Heats = slices.Clone(r.Heats)
		for i := range y.Heats {
			if i < heat {
				continue
			}
			y.Heats[i] = nil
			for range y.Sleds {
				x := out()
				if d.from(0, 2) > 0 {
					x = api.Descent{Fixed: true, Time: d.span(1, 9999, 99)}
				}
				y.Heats[i] = append(y.Heats[i], x)
			}
		}
		l, e := race.Order(y, heat)
		if !slices.Equal(l, before) || e != api.OK {
			t.Error(r, y, heat, l, e)
		}
		if heat > 0 {
			// The next heat is another one.
			less := r.Race
			less.Heats = r.Heats[:heat]
			if l, e := race.Order(less, heat); !slices.Equal(l, before) || e != api.OK {
				t.Error(r, heat, l, e)
			}
		}
		last, _ := race.Order(r.Race, len(r.Heats))
		if l, _ := race.Order(y, len(r.Heats)); !slices.Equal(l, last) {
			other++
		}
	}
	if other < 500 {
		t.Error("too few for which it matters:", other)
	}
}

// later returns a race on a later time of the day.
func later(r api.Race, by int) api.Race {
	r.Line.Clocks = slices.Clone(r.Line.Clocks)
	for i, c := range r.Line.Clocks {
		r.Line.Clocks[i].Syncs = slices.Clone(c.Syncs)
		for k := range c.Syncs {
			r.Line.Clocks[i].Syncs[k].At += by
		}
	}
	r.Heats = slices.Clone(r.Heats)
	for i, heat := range r.Heats {
		r.Heats[i] = slices.Clone(heat)
		for k, d := range heat {
			if d.Out || d.Fixed {
				continue
			}
			ride := &r.Heats[i][k].Ride
			ride.Start, ride.Now, ride.Signals = ride.Start+by, ride.Now+by, slices.Clone(ride.Signals)
			for n := range ride.Signals {
				ride.Signals[n].Read += by
			}
		}
	}
	return r
}

// P6.11: if all times of the day are later by as much, nothing else changes.
func TestLaterByAsMuch(t *testing.T) {
	d := newDice(19)
	rides := 0
	for range 1000 {
		r := d.both()
		y := later(r.Race, d.from(0, []int{9, 1000000, 85000000}[d.IntN(3)]))
		valid(t, y)
		for heat, l := range r.Heats {
			for sled := range l {
				a, e := race.Time(r.Race, heat, sled)
				if b, f := race.Time(y, heat, sled); a != b || e != f {
					t.Error("Time:", r, y, heat, sled, a, e, b, f)
				}
				if !l[sled].Out && !l[sled].Fixed {
					rides++
				}
			}
		}
		if a, b := told(t, r.Race), told(t, y); !equal(a, b) {
			t.Error(r, y, a, b)
		}
		for heat := range len(r.Heats) + 1 {
			a, _ := race.Order(r.Race, heat)
			if b, e := race.Order(y, heat); !slices.Equal(a, b) || e != api.OK {
				t.Error("Order:", r, y, heat, a, b, e)
			}
		}
		if heat, sled, old, ok := d.repair(r.Race); ok {
			time := d.span(old.Lo, old.Hi+50, 20)
			a, _ := race.Touched(r.Race, heat, sled, time)
			if b, e := race.Touched(y, heat, sled, time); !slices.Equal(a, b) || e != api.OK {
				t.Error("Touched:", r, y, heat, sled, time, a, b, e)
			}
		}
	}
	if rides < 500 {
		t.Error("too few rides:", rides)
	}
}

// P6.11: a sync more, which is true, makes no time wider, and no rank more.
func TestSyncsMore(t *testing.T) {
	d := newDice(20)
	narrower, fewer := 0, 0
	for range 1200 {
		r := d.both()
		i, time := d.IntN(len(r.clocks)), d.from(0, 500000)
		c := r.Line.Clocks[i]
		if slices.ContainsFunc(c.Syncs, func(s api.Sync) bool { return s.At == time }) {
			continue
		}
		y := r.Race
		y.Line.Clocks = slices.Clone(y.Line.Clocks)
		syncs := append(slices.Clone(c.Syncs), d.sync(r.clocks[i], time, d.from(0, 1)))
		slices.SortFunc(syncs, func(a, b api.Sync) int { return a.At - b.At })
		y.Line.Clocks[i].Syncs = syncs
		valid(t, y)
		for heat, l := range r.Heats {
			for sled := range l {
				a, e := race.Time(r.Race, heat, sled)
				b, f := race.Time(y, heat, sled)
				if e != f || b.Lo < a.Lo || b.Hi > a.Hi {
					t.Error("Time:", r, y, heat, sled, a, e, b, f)
				}
				if a != b {
					narrower++
				}
			}
		}
		was, is := told(t, r.Race), told(t, y)
		for a, ranks := range is.ranks {
			for _, rank := range ranks {
				if !slices.Contains(was.ranks[a], rank) {
					t.Error("Ranks:", r, y, a, was, is)
				}
			}
			if len(ranks) < len(was.ranks[a]) {
				fewer++
			}
		}
	}
	if narrower < 200 || fewer < 50 {
		t.Error("too few of a sort:", narrower, fewer)
	}
}

// R5, P6.1: no number overflows, and no call takes long, at the greatest numbers that are allowed.
func TestGreatestNumbers(t *testing.T) {
	r := api.Race{Line: line(), Sleds: ints(9995, 9996, 9997, 9998, 9999), Draw: ints(4, 3, 2, 1, 0), Turn: 5}
	for i := range r.Line.Beams {
		r.Line.Beams[i].Spot.Off = span(10*i+1, 10*i+9)
	}
	r.Line.Beams = append(r.Line.Beams, api.Beam{Spot: at(100, 100)}, api.Beam{Spot: at(200, 200)}, api.Beam{Spot: at(9999, 9999)})
	r.Line.Finish, r.Line.Fakes, r.Line.Misses = 5, api.MaxFakes, api.MaxMisses
	x := api.Descent{Ride: api.Ride{Now: api.MaxClock}}
	for i := range 9 {
		x.Ride.Signals = append(x.Ride.Signals, sig(i*6/9, 1000000+i*7000))
	}
	x.Ride.Signals = x.Ride.Signals[:8]
	for range api.MaxHeats {
		r.Heats = append(r.Heats, slices.Repeat([]api.Descent{x}, api.MaxStarters))
	}
	r.Heats[2][4] = fixed(1, api.MaxTime)
	time, e := race.Time(r, 0, 0)
	if time.Hi != api.MaxClock || e != api.OK {
		t.Error(time, e)
	}
	for range 20 {
		s := told(t, r)
		for sled, want := range []api.Span{span(3*(time.Lo/10), 3*8640000), span(3*(time.Lo/10), 3*8640000), span(3*(time.Lo/10), 3*8640000), span(3*(time.Lo/10), 3*8640000), span(2*(time.Lo/10), 2*8640000+60000)} {
			if s.sums[sled] != want || !slices.Equal(s.ranks[sled], ints(1, 2, 3, 4, 5)) {
				t.Error(sled, s)
			}
		}
		if fmt.Sprint(s.table) != "[[0 1 2 3 4]]" {
			t.Error(s)
		}
	}
	if l, e := race.Order(r, 3); !slices.Equal(l, ints(0, 1, 2, 3, 4)) || e != api.OK {
		t.Error(l, e)
	}
	if l, e := race.Touched(r, 1, 1, span(1, 1)); len(l) != 0 || e != api.OK {
		t.Error(l, e)
	}
}

// R3: no argument is written to, nor the memory behind its end.
func TestNoArgumentIsWrittenTo(t *testing.T) {
	x, wanted := ask(), ask()
	stretches := append(x.r.Line.Track.Stretches, api.Stretch{Id: 4}, api.Stretch{Id: 44})
	clocks := append(x.r.Line.Clocks, api.Clock{Drift: 4}, api.Clock{Drift: 44})
	syncs := append(x.r.Line.Clocks[0].Syncs, api.Sync{At: 4}, api.Sync{At: 44})
	beams := append(x.r.Line.Beams, api.Beam{Clock: 4}, api.Beam{Clock: 44})
	sleds, draw := append(x.r.Sleds, 4, 44), append(x.r.Draw, 4, 44)
	heats := append(x.r.Heats, []api.Descent{out()}, []api.Descent{fixed(4, 4)})
	descents := append(x.r.Heats[0], fixed(4, 4), fixed(44, 44))
	signals := append(x.r.Heats[0][0].Ride.Signals, sig(4, 4), sig(44, 44))
	x.r.Line.Track.Stretches, x.r.Line.Clocks, x.r.Line.Beams = stretches[:1], clocks[:1], beams[:3]
	x.r.Line.Clocks[0].Syncs = syncs[:2]
	x.r.Sleds, x.r.Draw, x.r.Heats = sleds[:3], draw[:3], heats[:2]
	heats[0], descents[0].Ride.Signals = descents[:3], signals[:3]
	text := func() string {
		return fmt.Sprint(stretches, clocks, syncs, beams, sleds, draw, heats, descents, signals)
	}
	before := text()
	for heat := range 3 {
		for sled := range 3 {
			x.heat, x.sled, x.other = heat, sled, (sled+1)%3
			calls(x)
			if text() != before || fmt.Sprint(x.r) != fmt.Sprint(wanted.r) {
				t.Error(heat, sled, text(), before)
			}
		}
	}
}

// R4: a nil list and an empty one are the same.
func TestNilAndEmpty(t *testing.T) {
	for i, change := range []func(x *asked, none bool){
		func(x *asked, none bool) { x.r.Sleds = map[bool][]int{false: {}}[none] },
		func(x *asked, none bool) { x.r.Draw = map[bool][]int{false: {}}[none] },
		func(x *asked, none bool) { x.r.Heats = map[bool][][]api.Descent{false: {}}[none] },
		func(x *asked, none bool) { x.r.Heats[1] = map[bool][]api.Descent{false: {}}[none] },
		func(x *asked, none bool) { x.r.Heats[1][1].Ride.Signals = map[bool][]api.Signal{false: {}}[none] },
		func(x *asked, none bool) {
			x.r.Heats[1][1] = api.Descent{Out: true, Ride: api.Ride{Signals: map[bool][]api.Signal{false: {}}[none]}}
		},
		func(x *asked, none bool) {
			x.r.Line.Finish, x.r.Heats[0][0].Ride.Signals = 0, map[bool][]api.Signal{false: {}}[none]
		},
		func(x *asked, none bool) { x.r.Line.Clocks = map[bool][]api.Clock{false: {}}[none] },
		func(x *asked, none bool) { x.r.Line.Track.Stretches = map[bool][]api.Stretch{false: {}}[none] },
	} {
		x, y := ask(), ask()
		change(&x, true)
		change(&y, false)
		a, b := calls(x), calls(y)
		if !slices.Equal(a, b) || (a[0].e == api.OK) != (i >= 4 && i <= 6) {
			t.Error(i, a, b)
		}
	}
}

// spoil writes to all memory of results.
func spoil(x asked) {
	order, _ := race.Order(x.r, x.heat)
	clear(order[:cap(order)])
	ranks, _ := race.Ranks(x.r, x.sled)
	clear(ranks[:cap(ranks)])
	table, _ := race.Table(x.r)
	for _, group := range table {
		clear(group[:cap(group)])
	}
	clear(table[:cap(table)])
	touched, _ := race.Touched(x.r, x.heat, x.sled, x.time)
	clear(touched[:cap(touched)])
	repaired, _ := race.Repair(x.r, x.heat, x.sled, x.time)
	spoilRace(repaired)
}

// spoilRace writes to all memory of a race.
func spoilRace(r api.Race) {
	for i, heat := range r.Heats {
		for k := range heat {
			signals := heat[k].Ride.Signals
			clear(signals[:cap(signals)])
		}
		clear(r.Heats[i][:cap(heat)])
	}
	for _, c := range r.Line.Clocks {
		clear(c.Syncs[:cap(c.Syncs)])
	}
	l := r.Line
	clear(r.Heats[:cap(r.Heats)])
	clear(r.Sleds[:cap(r.Sleds)])
	clear(r.Draw[:cap(r.Draw)])
	clear(l.Clocks[:cap(l.Clocks)])
	clear(l.Beams[:cap(l.Beams)])
	clear(l.Track.Stretches[:cap(l.Track.Stretches)])
}

// R3: a result shares no memory with an argument, nor with another one, and nothing is remembered from one call to another.
func TestCallsAreTheSameAgain(t *testing.T) {
	d := newDice(21)
	var list []asked
	var first [][]result
	for range 150 {
		r := d.both()
		x := asked{r.Race, d.IntN(len(r.Heats)), d.IntN(len(r.Sleds)), d.IntN(len(r.Sleds)), d.span(1, 100, 100)}
		list, first = append(list, x), append(first, calls(x))
	}
	for i := len(list) - 1; i >= 0; i-- {
		spoil(list[i])
		for range 3 {
			if again := calls(list[i]); !slices.Equal(again, first[i]) {
				t.Error(list[i], again, first[i])
			}
		}
	}
}

// R3: a race that is repaired has memory of its own, behind its ends as well.
func TestRepairedRacesShareNothing(t *testing.T) {
	x := winter(func(r *api.Race) { r.Heats[1][1] = down() })
	text := fmt.Sprint(x)
	a, e := race.Repair(x, 1, 0, span(7, 8))
	b, f := race.Repair(x, 1, 0, span(7, 8))
	want := fmt.Sprint(b)
	spoilRace(a)
	if fmt.Sprint(x) != text || fmt.Sprint(b) != want || e != api.OK || f != api.OK {
		t.Error(x, b, e, f)
	}
	// Both rides have signals of their own.
	b.Heats[0][0].Ride.Signals[0].Read = 77
	if b.Heats[1][1].Ride.Signals[0].Read != 10600 {
		t.Error(b)
	}
	// Lists that share memory in the argument do not in the result.
	heat := []api.Descent{down(), fixed(5, 6)}
	same := of(heat, heat)
	y, e := race.Repair(same, 0, 1, span(7, 8))
	if want := of(heat, []api.Descent{down(), fixed(7, 8)}); e != api.OK || fmt.Sprint(y.Heats[0]) != fmt.Sprint(want.Heats[1]) || fmt.Sprint(y.Heats[1]) != fmt.Sprint(want.Heats[0]) {
		t.Error(y, e)
	}
	y.Heats[0][0].Ride.Signals[0].Read = 77
	if y.Heats[1][0].Ride.Signals[0].Read != 10600 {
		t.Error(y)
	}
	spoilRace(x)
	if fmt.Sprint(b) == want || b.Heats[0][0].Ride.Signals[1] != sig(0, 11000) || b.Line.Clocks[0].Syncs[1].At != 100000 {
		t.Error(b)
	}
}

// R5, R7: no call panics, whatever its arguments are.
func TestNoCallPanics(t *testing.T) {
	d := newDice(22)
	ends := []int{math.MinInt, -10000, -1, 0, 1, 2, 3, 4, 5, 6, 9, 10, 1000, 9999, 10000, 600000, 600001, 86400000, 86400001, math.MaxInt}
	pick := func() int { return ends[d.IntN(len(ends))] }
	for range 10000 {
		r := d.both()
		x := asked{r.Race, pick(), pick(), pick(), span(pick(), pick())}
		heat := d.IntN(len(x.r.Heats))
		descent := &x.r.Heats[heat][d.IntN(len(x.r.Sleds))]
		switch d.from(0, 10) {
		case 0:
			x.r.Turn, x.r.Line.Fast = pick(), pick()
		case 1:
			x.r.Sleds[d.IntN(len(x.r.Sleds))] = pick()
		case 2:
			x.r.Draw[d.IntN(len(x.r.Draw))] = pick()
		case 3:
			x.r.Sleds, x.r.Draw = slices.Repeat(x.r.Sleds, d.from(0, 3)), slices.Repeat(x.r.Draw, d.from(0, 3))
		case 4:
			x.r.Heats = slices.Repeat(x.r.Heats, d.from(0, 3))
		case 5:
			x.r.Heats[heat] = slices.Repeat(x.r.Heats[heat], d.from(0, 3))
		case 6:
			descent.Time = span(pick(), pick())
		case 7:
			descent.Out, descent.Fixed = d.from(0, 1) == 0, d.from(0, 1) == 0
		case 8:
			descent.Ride.Start, descent.Ride.Now = pick(), pick()
		case 9:
			*descent = api.Descent{Ride: api.Ride{Start: pick(), Now: pick(), Signals: slices.Repeat([]api.Signal{sig(pick(), pick())}, d.from(0, 12))}}
		case 10:
			x.r.Line.Beams, x.r.Line.Finish = slices.Repeat(x.r.Line.Beams, d.from(0, 2)), pick()
		}
		calls(x)
	}
}
