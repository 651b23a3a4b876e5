package jury_test

import (
	"fmt"
	"math"
	"slices"
	"testing"

	"kreisel/api"
	"kreisel/jury"
	"kreisel/race"
)

// P7.5, P7.6: who is truly touched may be, and who is surely touched is; also by faults after all that was heard of a ride.
func TestTheTrueSledsAreTouched(t *testing.T) {
	d := newDice(11)
	seen := map[string]int{}
	for range 800 {
		j := d.both()
		s := told(t, j.Jury)
		for i, f := range j.Faults {
			for heat, sleds := range s.touch[i] {
				for sled, known := range sleds {
					truly := j.touched(f, heat, sled)
					if truly && known == api.KnownNo || !truly && known == api.KnownYes {
						t.Error(j, f, heat, sled, known, truly)
					}
					if slices.Contains(s.hit[i][heat], sled) != (known > api.KnownNo) {
						t.Error("Hit:", j, f, heat, sled, s)
					}
					seen[fmt.Sprint(f.Kind, known, truly)]++
				}
			}
		}
	}
	for _, sort := range []string{"1 0 false", "1 1 false", "1 1 true", "1 2 true", "2 0 false", "2 1 false", "2 1 true", "2 2 true", "3 0 false", "3 1 false", "3 1 true", "3 2 true"} {
		if seen[sort] < 30 {
			t.Error("too few of a sort:", sort, seen)
		}
	}
}

// P7.6: in each truth of a ride who is surely touched is touched, and who is touched may be.
func TestTouchedInTruths(t *testing.T) {
	d := newDice(12)
	surely, maybe := 0, 0
	for range 500 {
		j := d.jury(small())
		s := told(t, j.Jury)
		for _, at := range j.rides {
			r := j.rideOf(at)
			truths(j.Race.Line, r, func(times []int) {
				// Whatever it did not pass until now it passes later, or never.
				for len(times) < len(j.Race.Line.Beams) {
					times = append(slices.Clip(times), never)
				}
				j.times[at] = times
				for i, f := range j.Faults {
					known, truly := s.touch[i][at[0]][at[1]], j.touched(f, at[0], at[1])
					if truly && known == api.KnownNo || !truly && known == api.KnownYes {
						t.Error(j, f, at, times, known)
					}
					surely, maybe = surely+int(known/2), maybe+int(known%2)
				}
			})
		}
	}
	if surely < 1000 || maybe < 1000 {
		t.Error("too few of a sort:", surely, maybe)
	}
}

// P7.5: if a protest is granted, all whom its fault may touch repeat, in each heat, whoever was truly touched among them; and who repeats may be touched by such a fault.
func TestRepeatsAreByTheirRule(t *testing.T) {
	d := newDice(13)
	others, none := 0, 0
	for range 800 {
		j := d.both()
		s := told(t, j.Jury)
		about := map[int]bool{}
		for i, p := range j.Protests {
			known := s.touch[p.Fault][p.Heat][p.Sled]
			granted := slices.Contains(s.grants, i)
			if granted != (known > api.KnownNo && s.late[i] < api.KnownYes) {
				t.Error("Grants:", j, p, s)
			}
			if !granted {
				continue
			}
			about[p.Fault] = true
			for heat, sleds := range s.hit[p.Fault] {
				for sled := range j.Race.Sleds {
					repeats := slices.Contains(s.repeats[heat], sled)
					if slices.Contains(sleds, sled) && !repeats || j.touched(j.Faults[p.Fault], heat, sled) && !repeats {
						t.Error("Repeats:", j, p, heat, sled, s)
					}
					if repeats && sled != p.Sled {
						others++
					}
				}
			}
		}
		for heat, sleds := range s.repeats {
			if !slices.IsSorted(sleds) || len(slices.Compact(slices.Clone(sleds))) != len(sleds) {
				t.Error("Repeats:", j, heat, s)
			}
			for _, sled := range sleds {
				by := false
				for fault := range about {
					by = by || s.touch[fault][heat][sled] > api.KnownNo
				}
				if x := j.Race.Heats[heat][sled]; !by || x.Out || x.Fixed {
					t.Error("Repeats:", j, heat, sled, s)
				}
			}
		}
		if len(about) == 0 && len(slices.Concat(s.repeats...)) > 0 {
			t.Error("Repeats without a grant:", j, s)
		}
		if len(about) == 0 {
			none++
		}
	}
	if others < 500 || none < 100 {
		t.Error("too few of a sort:", others, none)
	}
}

// P7.7: what is given back and what is kept are all fees, and what all purses lack is kept.
func TestFeesAreConserved(t *testing.T) {
	d := newDice(14)
	given, kept := 0, 0
	for range 800 {
		j := d.both()
		s := told(t, j.Jury)
		sum := 0
		for sled, purse := range s.purses {
			sum += purse
			paid := 0
			for _, p := range j.Protests {
				if p.Sled == sled {
					paid += j.Fee
				}
			}
			if purse > 0 || -purse > paid {
				t.Error("Purse:", j, sled, s)
			}
		}
		if s.back+s.kept != len(j.Protests)*j.Fee || sum != -s.kept || s.back != len(s.grants)*j.Fee || s.back < 0 || s.kept < 0 {
			t.Error(j, s)
		}
		given, kept = given+min(1, s.back), kept+min(1, s.kept)
	}
	if given < 300 || kept < 300 {
		t.Error("too few of a sort:", given, kept)
	}
}

// P7.8: with more minutes no grant is lost, and nobody is touched otherwise.
func TestMoreMinutes(t *testing.T) {
	d := newDice(15)
	more := 0
	for range 800 {
		j := d.both()
		before := told(t, j.Jury)
		j.Minutes = min(api.MaxMinutes, j.Minutes+d.from(1, 3))
		after := told(t, j.Jury)
		for _, i := range before.grants {
			if !slices.Contains(after.grants, i) {
				t.Error(j, before, after)
			}
		}
		for i, late := range after.late {
			if late > before.late[i] {
				t.Error(j, before, after)
			}
		}
		if fmt.Sprint(before.touch) != fmt.Sprint(after.touch) {
			t.Error(j, before, after)
		}
		more += len(after.grants) - len(before.grants)
	}
	if more < 100 {
		t.Error("too few grants more:", more)
	}
}

// P7.8: a protest more changes nothing of the others.
func TestOneProtestMore(t *testing.T) {
	d := newDice(16)
	granted, refused := 0, 0
	for range 800 {
		s := []size{small(), great()}[d.IntN(2)]
		j := d.jury(s)
		if len(j.Faults) == 0 || len(j.rides) == 0 || len(j.Protests) == api.MaxProtests {
			continue
		}
		before := told(t, j.Jury)
		place := d.from(0, len(j.Protests))
		more := j.Jury
		more.Protests = slices.Insert(slices.Clone(j.Protests), place, d.protest(s, j, 0))
		for i := range more.Protests {
			more.Protests[i].Id = 2*i + 1
		}
		after := told(t, more)
		if fmt.Sprint(before.touch) != fmt.Sprint(after.touch) || !slices.Equal(slices.Delete(slices.Clone(after.late), place, place+1), before.late) {
			t.Error(j, more, before, after)
		}
		var others []int
		for _, i := range after.grants {
			switch {
			case i < place:
				others = append(others, i)
			case i > place:
				others = append(others, i-1)
			}
		}
		if !slices.Equal(others, before.grants) {
			t.Error(j, more, before, after)
		}
		for heat, sleds := range before.repeats {
			for _, sled := range sleds {
				if !slices.Contains(after.repeats[heat], sled) {
					t.Error(j, more, before, after)
				}
			}
		}
		for sled, purse := range before.purses {
			if own := more.Protests[place].Sled; sled != own && after.purses[sled] != purse || after.purses[sled] > purse {
				t.Error(j, more, before, after)
			}
		}
		n := len(after.grants) - len(before.grants)
		granted, refused = granted+n, refused+1-n
	}
	if granted < 200 || refused < 200 {
		t.Error("too few of a sort:", granted, refused)
	}
}

// P7.8: a fault that lasts longer touches no fewer.
func TestLongerFaults(t *testing.T) {
	d := newDice(17)
	more := map[uint8]int{}
	for range 800 {
		s := []size{small(), great()}[d.IntN(2)]
		j := d.jury(s)
		before := told(t, j.Jury)
		for i := range j.Faults {
			f := &j.Faults[i]
			f.From, f.To = max(0, f.From-d.from(0, 3*s.slow)), f.To+d.from(0, 3*s.slow)
		}
		after := told(t, j.Jury)
		for i, heats := range before.touch {
			for heat, sleds := range heats {
				for sled, known := range sleds {
					if now := after.touch[i][heat][sled]; now < known {
						t.Error(j, i, heat, sled, before, after)
					} else if now > known {
						more[now]++
					}
				}
			}
		}
		for _, i := range before.grants {
			if !slices.Contains(after.grants, i) {
				t.Error(j, before, after)
			}
		}
	}
	if more[1] < 100 || more[2] < 100 {
		t.Error("too few of a sort:", more)
	}
}

// P7.9: a descent that is replaced changes nothing of the times of all others, and whoever does not repeat has nothing replaced.
func TestReplacedDescentsAreAlone(t *testing.T) {
	d := newDice(18)
	replaced, bad := 0, 0
	for range 500 {
		s := []size{small(), great()}[d.IntN(2)]
		j := d.jury(s)
		repeats := told(t, j.Jury).repeats
		for heat := range j.Race.Heats {
			for sled := range j.Race.Sleds {
				x := []api.Descent{out(), fixed(3, 4), {}}[d.IntN(3)]
				if !x.Out && !x.Fixed {
					x.Ride, _ = d.ride(s, j.Race.Line, j.clocks)
				}
				r, e := jury.Replace(j.Jury, heat, sled, x)
				if !slices.Contains(repeats[heat], sled) {
					bad++
					if e != api.ErrBad {
						t.Error(j, heat, sled, e)
					}
					continue
				}
				replaced++
				alone(t, j.Race, r, heat, sled)
			}
		}
	}
	if replaced < 300 || bad < 300 {
		t.Error("too few of a sort:", replaced, bad)
	}
}

// alone reports what another descent changes in a race but itself.
func alone(t *testing.T, before, after api.Race, heat, sled int) {
	t.Helper()
	if e := race.Check(after); e != api.OK || len(after.Heats) != len(before.Heats) {
		t.Fatal(before, after, heat, sled, e)
	}
	for i, descents := range before.Heats {
		for k := range descents {
			if i == heat && k == sled {
				continue
			}
			a, e := race.Time(before, i, k)
			b, f := race.Time(after, i, k)
			if a != b || e != f {
				t.Error("Time:", before, after, heat, sled, i, k, a, e, b, f)
			}
		}
	}
	with := before
	with.Heats = slices.Clone(before.Heats)
	with.Heats[heat] = slices.Clone(before.Heats[heat])
	with.Heats[heat][sled] = after.Heats[heat][sled]
	if fmt.Sprint(with) != fmt.Sprint(after) {
		t.Error(before, after, heat, sled)
	}
}

// later returns a jury on a later time of the day.
func later(j api.Jury, by int) api.Jury {
	j.Race.Line.Clocks = slices.Clone(j.Race.Line.Clocks)
	for i, c := range j.Race.Line.Clocks {
		syncs := slices.Clone(c.Syncs)
		for k := range syncs {
			syncs[k].At += by
		}
		j.Race.Line.Clocks[i].Syncs = syncs
	}
	j.Race.Heats = slices.Clone(j.Race.Heats)
	for i, heat := range j.Race.Heats {
		j.Race.Heats[i] = slices.Clone(heat)
		for k, d := range heat {
			if d.Out || d.Fixed {
				continue
			}
			r := &j.Race.Heats[i][k].Ride
			r.Start, r.Now, r.Signals = r.Start+by, r.Now+by, slices.Clone(r.Signals)
			for n := range r.Signals {
				r.Signals[n].Read += by
			}
		}
	}
	j.Faults, j.Protests = slices.Clone(j.Faults), slices.Clone(j.Protests)
	for i := range j.Faults {
		j.Faults[i].From, j.Faults[i].To = j.Faults[i].From+by, j.Faults[i].To+by
	}
	for i := range j.Protests {
		j.Protests[i].At += by
	}
	return j
}

// P7.10: if all is later by as much, nothing else changes.
func TestLaterByAsMuch(t *testing.T) {
	d := newDice(19)
	for range 400 {
		j := d.both()
		by := d.from(0, []int{9, 1000000, 82000000}[d.IntN(3)])
		y := later(j.Jury, by)
		if a, b := told(t, j.Jury), told(t, y); !equal(a, b) {
			t.Error(j, by, a, b)
		}
		for heat := range j.Race.Heats {
			for sled := range j.Race.Sleds {
				r, e := jury.Replace(j.Jury, heat, sled, fixed(5, 6))
				q, f := jury.Replace(y, heat, sled, fixed(5, 6))
				want := api.Race{}
				if e == api.OK {
					want = later(api.Jury{Race: r}, by).Race
				}
				if e != f || fmt.Sprint(q) != fmt.Sprint(want) {
					t.Error(j, by, heat, sled, e, f, q, want)
				}
			}
		}
	}
}

// R5, P7.1 to P7.4: no number overflows, and no call takes long, at the greatest numbers that are allowed.
func TestGreatestNumbers(t *testing.T) {
	l := line()
	for i := range l.Beams {
		l.Beams[i].Spot.Off = span(10*i+1, 10*i+9)
	}
	l.Beams = append(l.Beams, api.Beam{Spot: spot(100, 100)}, api.Beam{Spot: spot(200, 200)}, api.Beam{Spot: spot(9999, 9999)})
	l.Finish, l.Fakes, l.Misses = 5, api.MaxFakes, api.MaxMisses
	x := api.Descent{Ride: api.Ride{Now: api.MaxClock}}
	for i := range 8 {
		x.Ride.Signals = append(x.Ride.Signals, sig(i*6/9, 1000000+i*7000))
	}
	heat := slices.Repeat([]api.Descent{x}, api.MaxStarters)
	j := of(l, slices.Repeat([][]api.Descent{heat}, api.MaxHeats), wind(0, api.MaxClock), ice(5, api.MaxClock, api.MaxClock), dark(5, 0, api.MaxClock), dark(0, 0, 0), ice(0, 0, 0))
	j.Minutes, j.Fee = api.MaxMinutes, api.MaxFee
	for i := range api.MaxProtests {
		j.Protests = append(j.Protests, protest(api.MaxId-7+i, i%5, i%3, i%5, api.MaxClock))
	}
	for range 5 {
		s := told(t, j)
		if fmt.Sprint(s.grants) != "[0 1 2 4 5 6 7]" || s.back != 700000 || s.kept != 100000 || !slices.Equal(s.purses, ints(0, 0, 0, -100000, 0)) || !equal(s, storyOf(j, byBeams)) {
			t.Error(s)
		}
	}
	if r, e := jury.Replace(j, 2, 4, x); e != api.OK || fmt.Sprint(r) != fmt.Sprint(j.Race) {
		t.Error(r, e)
	}
}

// R3: no argument is written to, nor the memory behind its end.
func TestNoArgumentIsWrittenTo(t *testing.T) {
	x, wanted := ask(), ask()
	x.d, wanted.d = down(), down()
	stretches := append(x.j.Race.Line.Track.Stretches, api.Stretch{Id: 4}, api.Stretch{Id: 44})
	clocks := append(x.j.Race.Line.Clocks, api.Clock{Drift: 4}, api.Clock{Drift: 44})
	syncs := append(x.j.Race.Line.Clocks[0].Syncs, api.Sync{At: 4}, api.Sync{At: 44})
	beams := append(x.j.Race.Line.Beams, api.Beam{Clock: 4}, api.Beam{Clock: 44})
	sleds, draw := append(x.j.Race.Sleds, 4, 44), append(x.j.Race.Draw, 4, 44)
	heats := append(x.j.Race.Heats, []api.Descent{out()}, []api.Descent{fixed(4, 4)})
	descents := append(x.j.Race.Heats[0], fixed(4, 4), fixed(44, 44))
	signals := append(x.j.Race.Heats[0][0].Ride.Signals, sig(4, 4), sig(44, 44))
	faults := append(x.j.Faults, wind(4, 4), wind(44, 44))
	protests := append(x.j.Protests, protest(4, 4, 4, 4, 4), protest(44, 4, 4, 4, 4))
	own := append(x.d.Ride.Signals, sig(4, 4), sig(44, 44))
	r := &x.j.Race
	r.Line.Track.Stretches, r.Line.Clocks, r.Line.Beams = stretches[:1], clocks[:1], beams[:3]
	r.Line.Clocks[0].Syncs = syncs[:2]
	r.Sleds, r.Draw, r.Heats = sleds[:3], draw[:3], heats[:2]
	heats[0], descents[0].Ride.Signals = descents[:3], signals[:3]
	x.j.Faults, x.j.Protests, x.d.Ride.Signals = faults[:4], protests[:3], own[:3]
	text := func() string {
		return fmt.Sprint(stretches, clocks, syncs, beams, sleds, draw, heats, descents, signals, faults, protests, own)
	}
	before := text()
	for heat := range 3 {
		for sled := range 3 {
			x.heat, x.sled, x.fault, x.protest = heat, sled, heat, sled
			calls(x)
			if text() != before || fmt.Sprint(x.j, x.d) != fmt.Sprint(wanted.j, wanted.d) {
				t.Error(heat, sled, text(), before)
			}
		}
	}
}

// R4: a nil list and an empty one are the same.
func TestNilAndEmpty(t *testing.T) {
	for i, x := range []struct {
		change func(x *asked, none bool)
		e      api.Errno
	}{
		{func(x *asked, none bool) {
			x.j.Faults, x.j.Protests = map[bool][]api.Fault{false: {}}[none], map[bool][]api.Protest{false: {}}[none]
		}, api.OK},
		{func(x *asked, none bool) { x.j.Faults = map[bool][]api.Fault{false: {}}[none] }, api.ErrJury},
		{func(x *asked, none bool) { x.j.Protests = map[bool][]api.Protest{false: {}}[none] }, api.OK},
		{func(x *asked, none bool) {
			x.d = api.Descent{Out: true, Ride: api.Ride{Signals: map[bool][]api.Signal{false: {}}[none]}}
		}, api.OK},
		{func(x *asked, none bool) {
			x.j.Race.Line.Finish, x.j.Faults, x.j.Protests = 0, x.j.Faults[:1], nil
			x.j.Race.Heats[0][0].Ride.Signals = map[bool][]api.Signal{false: {}}[none]
		}, api.OK},
		{func(x *asked, none bool) { x.j.Race.Sleds = map[bool][]int{false: {}}[none] }, api.ErrRace},
		{func(x *asked, none bool) { x.j.Race.Heats = map[bool][][]api.Descent{false: {}}[none] }, api.ErrRace},
		{func(x *asked, none bool) { x.j.Race.Line.Beams = map[bool][]api.Beam{false: {}}[none] }, api.ErrLine},
	} {
		y, z := ask(), ask()
		x.change(&y, true)
		x.change(&z, false)
		a, b := calls(y), calls(z)
		if !slices.Equal(a, b) || a[0].e != x.e {
			t.Error(i, a, b)
		}
	}
}

// spoil writes to all memory of results.
func spoil(x asked) {
	hit, _ := jury.Hit(x.j, x.fault)
	repeats, _ := jury.Repeats(x.j)
	for _, heats := range [][][]int{hit, repeats} {
		for _, sleds := range heats {
			clear(sleds[:cap(sleds)])
		}
		clear(heats[:cap(heats)])
	}
	grants, _ := jury.Grants(x.j)
	clear(grants[:cap(grants)])
	replaced, _ := jury.Replace(x.j, x.heat, x.sled, x.d)
	spoilRace(replaced)
}

// spoilRace writes to all memory of a race.
func spoilRace(r api.Race) {
	for i, heat := range r.Heats {
		for k := range heat {
			signals := heat[k].Ride.Signals
			clear(signals[:cap(signals)])
		}
		clear(r.Heats[i][:cap(heat)])
	}
	for _, c := range r.Line.Clocks {
		clear(c.Syncs[:cap(c.Syncs)])
	}
	l := r.Line
	clear(r.Heats[:cap(r.Heats)])
	clear(r.Sleds[:cap(r.Sleds)])
	clear(r.Draw[:cap(r.Draw)])
	clear(l.Clocks[:cap(l.Clocks)])
	clear(l.Beams[:cap(l.Beams)])
	clear(l.Track.Stretches[:cap(l.Track.Stretches)])
}

// R3: a result shares no memory with an argument, nor with another one, and nothing is remembered from one call to another.
func TestCallsAreTheSameAgain(t *testing.T) {
	d := newDice(20)
	var list []asked
	var first [][]result
	for range 200 {
		j := d.both()
		x := asked{j.Jury, d.IntN(api.MaxFaults), d.IntN(len(j.Race.Heats)), d.IntN(len(j.Race.Sleds)), d.IntN(api.MaxProtests), fixed(5, 6)}
		if len(j.rides) > 0 {
			at := j.rides[d.IntN(len(j.rides))]
			x.heat, x.sled, x.d.Fixed, x.d.Time, x.d.Ride = at[0], at[1], false, api.Span{}, j.rideOf(at)
		}
		list, first = append(list, x), append(first, calls(x))
	}
	for i := len(list) - 1; i >= 0; i-- {
		spoil(list[i])
		for range 3 {
			if again := calls(list[i]); !slices.Equal(again, first[i]) {
				t.Error(list[i], again, first[i])
			}
		}
	}
}

// R3: a race in which a descent is replaced has memory of its own, also what was put in, and where lists of the argument share theirs.
func TestReplacedRacesShareNothing(t *testing.T) {
	heat := []api.Descent{down(), down()}
	j := of(line(), [][]api.Descent{heat, heat}, wind(0, api.MaxClock))
	j.Protests = []api.Protest{protest(1, 0, 0, 0, 20000)}
	x := heat[1]
	text := fmt.Sprint(j, x)
	a, e := jury.Replace(j, 0, 0, x)
	b, f := jury.Replace(j, 0, 0, x)
	want := fmt.Sprint(b)
	spoilRace(a)
	if fmt.Sprint(j, x) != text || fmt.Sprint(b) != want || want != fmt.Sprint(j.Race) || e != api.OK || f != api.OK {
		t.Error(j, x, b, e, f)
	}
	for heat := range 2 {
		for sled := range 2 {
			b.Heats[heat][sled].Ride.Signals[0].Read = 1000*heat + 100*sled
		}
	}
	for heat := range 2 {
		for sled := range 2 {
			if n := b.Heats[heat][sled].Ride.Signals[0].Read; n != 1000*heat+100*sled {
				t.Error(heat, sled, n)
			}
		}
	}
	if fmt.Sprint(j, x) != text {
		t.Error(j, x)
	}
}

// R5, R7: no call panics, whatever its arguments are.
func TestNoCallPanics(t *testing.T) {
	d := newDice(21)
	ends := []int{math.MinInt, -10000, -1, 0, 1, 2, 3, 4, 5, 6, 9, 10, 60, 61, 1000, 9999, 10000, 100000, 600000, 86400000, 86400001, math.MaxInt}
	pick := func() int { return ends[d.IntN(len(ends))] }
	anyFault := func() api.Fault { return api.Fault{Kind: uint8(d.IntN(256)), Where: pick(), From: pick(), To: pick()} }
	for range 4000 {
		j := d.both()
		x := asked{j.Jury, pick(), pick(), pick(), pick(), api.Descent{Out: d.from(0, 9) == 0, Fixed: d.from(0, 1) == 0, Time: span(pick(), pick())}}
		if len(j.rides) > 0 && d.from(0, 1) == 0 {
			at := j.rides[d.IntN(len(j.rides))]
			x.fault, x.heat, x.sled, x.protest = 0, at[0], at[1], 0
			x.d = api.Descent{Ride: api.Ride{Start: pick(), Now: pick(), Signals: slices.Repeat([]api.Signal{sig(pick(), pick())}, d.from(0, 12))}}
		}
		switch d.from(0, 9) {
		case 0:
			x.j.Minutes, x.j.Fee = pick(), pick()
		case 1:
			x.j.Faults = append(x.j.Faults, anyFault())
		case 2:
			x.j.Faults = slices.Repeat(x.j.Faults, d.from(0, 3))
		case 3:
			x.j.Protests = append(x.j.Protests, protest(pick(), pick(), pick(), pick(), pick()))
		case 4:
			x.j.Protests = slices.Repeat(x.j.Protests, d.from(0, 3))
		case 5:
			x.j.Race.Line.Finish, x.j.Race.Line.Misses = pick(), pick()
		case 6:
			heat := d.IntN(len(x.j.Race.Heats))
			x.j.Race.Heats[heat][d.IntN(len(x.j.Race.Sleds))] = x.d
		case 7:
			x.j.Race.Heats = slices.Repeat(x.j.Race.Heats, d.from(0, 3))
		case 8:
			x.j.Race.Line.Beams = slices.Repeat(x.j.Race.Line.Beams, d.from(0, 2))
		case 9:
			x.j.Race.Sleds, x.j.Race.Draw = slices.Repeat(x.j.Race.Sleds, d.from(0, 2)), slices.Repeat(x.j.Race.Draw, d.from(0, 2))
		}
		calls(x)
	}
}
