package race_test

import (
	"fmt"
	"math"
	"slices"
	"testing"

	"kreisel/api"
	"kreisel/beam"
	"kreisel/race"
)

// far are numbers that no field allows.
var far = []int{math.MinInt, math.MinInt + 1, math.MinInt32, math.MaxInt32 + 1, math.MaxInt - 1, math.MaxInt}

// An asked is all that a call may be asked about.
type asked struct {
	r                 api.Race
	heat, sled, other int
	time              api.Span
}

// ask returns what the chapter's examples ask about.
func ask() asked { return asked{winter(), 0, 2, 1, span(2590, 2599)} }

// A result is what a call returned, as a text, and that of a zero value.
type result struct {
	name       string
	text, zero string
	e          api.Errno
}

// gave returns the result of a call; nil and an empty list have the same text.
func gave[T any](name string, value T, e api.Errno) result {
	var zero T
	return result{name, fmt.Sprint(value), fmt.Sprint(zero), e}
}

// calls calls all functions.
func calls(x asked) []result {
	time, e1 := race.Time(x.r, x.heat, x.sled)
	sum, e2 := race.Sum(x.r, x.sled)
	order, e3 := race.Order(x.r, x.heat)
	ranks, e4 := race.Ranks(x.r, x.sled)
	before, e5 := race.Before(x.r, x.sled, x.other)
	tied, e6 := race.Tied(x.r, x.sled, x.other)
	table, e7 := race.Table(x.r)
	repaired, e8 := race.Repair(x.r, x.heat, x.sled, x.time)
	touched, e9 := race.Touched(x.r, x.heat, x.sled, x.time)
	return []result{
		gave("Check", 0, race.Check(x.r)), gave("Time", time, e1), gave("Sum", sum, e2), gave("Order", order, e3), gave("Ranks", ranks, e4),
		gave("Before", before, e5), gave("Tied", tied, e6), gave("Table", table, e7), gave("Repair", repaired, e8), gave("Touched", touched, e9),
	}
}

// Which functions tell of what is not valid.
func all() []string {
	return []string{"Check", "Time", "Sum", "Order", "Ranks", "Before", "Tied", "Table", "Repair", "Touched"}
}

func ofHeats() []string { return []string{"Time", "Repair", "Touched"} }

func ofSleds() []string {
	return []string{"Time", "Sum", "Ranks", "Before", "Tied", "Repair", "Touched"}
}

// checked reports each call that has to return an error and does not, each other one that returns an error of its arguments, and each error with something else.
func checked(t *testing.T, about any, x asked, want api.Errno, by []string) {
	t.Helper()
	for _, r := range calls(x) {
		tells := want != api.OK && slices.Contains(by, r.name)
		if tells && r.e != want || r.e != api.OK && r.text != r.zero || !tells && slices.Contains([]api.Errno{api.ErrTrack, api.ErrLine, api.ErrRace, api.ErrArg}, r.e) {
			t.Error(about, r, want)
		}
	}
}

// A number is one that is asked about, from where to where it may be, and by which functions.
type number struct {
	name   string
	of     func(x *asked) *int
	lo, hi int
	e      api.Errno
	by     []string
}

func numbers() []number {
	return []number{
		{"Turn", func(x *asked) *int { return &x.r.Turn }, 0, api.MaxStarters, api.ErrRace, all()},
		{"the first of Sleds", func(x *asked) *int { return &x.r.Sleds[0] }, 0, 6, api.ErrRace, all()},
		{"the second of Sleds", func(x *asked) *int { return &x.r.Sleds[1] }, 5, 8, api.ErrRace, all()},
		{"the last of Sleds", func(x *asked) *int { return &x.r.Sleds[2] }, 8, api.MaxId, api.ErrRace, all()},
		{"the least time", func(x *asked) *int { return &x.r.Heats[1][0].Time.Lo }, 1, 2559, api.ErrRace, all()},
		{"the greatest time", func(x *asked) *int { return &x.r.Heats[1][0].Time.Hi }, 2555, api.MaxTime, api.ErrRace, all()},
		// The others are drawn.
		{"Draw", func(x *asked) *int { return &x.r.Draw[1] }, 0, 0, api.ErrRace, all()},
		{"Now", func(x *asked) *int { return &x.r.Heats[0][0].Ride.Now }, 12596, api.MaxClock, api.ErrRace, all()},
		{"Finish", func(x *asked) *int { return &x.r.Line.Finish }, 0, 2, api.ErrLine, all()},
		{"heat", func(x *asked) *int { return &x.heat }, 0, 1, api.ErrArg, ofHeats()},
		{"heat or the next one", func(x *asked) *int { return &x.heat }, 0, 2, api.ErrArg, []string{"Order"}},
		{"sled", func(x *asked) *int { return &x.sled }, 0, 2, api.ErrArg, ofSleds()},
		{"other", func(x *asked) *int { return &x.other }, 0, 1, api.ErrArg, []string{"Before", "Tied"}},
		{"the least time that is put in", func(x *asked) *int { return &x.time.Lo }, 1, 2599, api.ErrArg, []string{"Repair", "Touched"}},
		{"the greatest time that is put in", func(x *asked) *int { return &x.time.Hi }, 2590, api.MaxTime, api.ErrArg, []string{"Repair", "Touched"}},
	}
}

// P6.1 to P6.5, R5: each number has its ends, and however far it is beyond them is the same error.
func TestNumbersHaveEnds(t *testing.T) {
	// told asks with one number changed; calls that this is no matter of are left out.
	told := func(f number, n int, want api.Errno) {
		x := ask()
		if f.name == "sled" {
			x.other = 1 - min(1, n&1)
		}
		*f.of(&x) = n
		for _, r := range calls(x) {
			if slices.Contains(f.by, r.name) && (r.e != want || want != api.OK && r.text != r.zero) {
				t.Error(f.name, n, r, want)
			}
		}
	}
	for _, f := range numbers() {
		for _, n := range []int{f.lo, (f.lo + f.hi) / 2, f.hi} {
			told(f, n, api.OK)
		}
		for _, n := range append([]int{f.lo - 1, f.hi + 1}, far...) {
			told(f, n, f.e)
		}
	}
}

// P6.1: sleds and heats are not fewer nor more than their limits, and each heat has a descent for each sled.
func TestListsHaveLimits(t *testing.T) {
	for n := range api.MaxStarters + 4 {
		for heats := range api.MaxHeats + 3 {
			var x asked
			x.r = api.Race{Line: line()}
			x.sled, x.other, x.time = 0, 1, span(7, 7)
			for i := range n {
				x.r.Sleds, x.r.Draw = append(x.r.Sleds, i), append(x.r.Draw, i)
			}
			x.r.Heats = slices.Repeat([][]api.Descent{slices.Repeat([]api.Descent{fixed(5, 6)}, n)}, heats)
			want := api.OK
			if n < 1 || n > api.MaxStarters || heats < 1 || heats > api.MaxHeats {
				want = api.ErrRace
			}
			if n == 1 {
				// There is no other one.
				x.other = 0
				if _, e := race.Before(x.r, 0, 0); want == api.OK && e != api.ErrArg {
					t.Error(n, heats, e)
				}
				if e := race.Check(x.r); e != want {
					t.Error(n, heats, e)
				}
				continue
			}
			checked(t, []any{n, heats}, x, want, all())
		}
	}
	for i, change := range []func(r *api.Race){
		func(r *api.Race) { r.Sleds = r.Sleds[:2] }, func(r *api.Race) { r.Sleds = append(r.Sleds, 10) }, func(r *api.Race) { r.Draw = r.Draw[:2] }, func(r *api.Race) { r.Draw = append(r.Draw, 3) }, func(r *api.Race) { r.Draw = append(r.Draw, 0) }, func(r *api.Race) { r.Draw = nil },
		func(r *api.Race) { r.Heats[0] = r.Heats[0][:2] }, func(r *api.Race) { r.Heats[1] = r.Heats[1][:2] }, func(r *api.Race) { r.Heats[0] = nil }, func(r *api.Race) { r.Heats[1] = append(r.Heats[1], out()) }, func(r *api.Race) { r.Heats[0], r.Heats[1] = r.Heats[0][:2], r.Heats[1][:2] },
	} {
		x := ask()
		change(&x.r)
		checked(t, i, x, api.ErrRace, all())
	}
}

// P6.1: sleds are in increasing order, no one twice, and each one is drawn once.
func TestSledsAndDraws(t *testing.T) {
	for i, x := range []struct {
		sleds, draw []int
		ok          bool
	}{
		{ints(0, 1, 2), ints(0, 1, 2), true}, {ints(0, 5000, 9999), ints(2, 1, 0), true}, {ints(0, 0, 2), ints(0, 1, 2), false}, {ints(0, 2, 2), ints(0, 1, 2), false}, {ints(0, 2, 1), ints(0, 1, 2), false}, {ints(2, 1, 0), ints(0, 1, 2), false}, {ints(1, 0, 2), ints(0, 1, 2), false}, {ints(-1, 0, 2), ints(0, 1, 2), false}, {ints(0, 1, 10000), ints(0, 1, 2), false},
		{ints(4, 7, 9), ints(4, 7, 9), false}, {ints(4, 7, 9), ints(0, 0, 1), false}, {ints(4, 7, 9), ints(2, 2, 0), false}, {ints(4, 7, 9), ints(1, 2, 3), false}, {ints(4, 7, 9), ints(-1, 0, 1), false}, {ints(4, 7, 9), ints(1, 1, 1), false},
	} {
		y, want := ask(), api.ErrRace
		if x.ok {
			want = api.OK
		}
		y.r.Sleds, y.r.Draw = x.sleds, x.draw
		checked(t, i, y, want, all())
	}
	draws := 0
	for n := range 5 * 5 * 5 {
		draw := ints(n%5-1, n/5%5-1, n/25-1)
		x, want := ask(), api.ErrRace
		if sorted := slices.Sorted(slices.Values(draw)); slices.Equal(sorted, ints(0, 1, 2)) {
			want = api.OK
			draws++
		}
		x.r.Draw = draw
		checked(t, draw, x, want, all())
	}
	if draws != 6 {
		t.Error(draws)
	}
}

// P6.1, R6: a descent is out, fixed or a ride, each one without anything else.
func TestKindsOfDescents(t *testing.T) {
	rides := []api.Ride{{}, {Signals: []api.Signal{}}, down().Ride, {Start: 10000, Now: 9999}, {Now: 5}, {Start: 5, Now: 5}, {Start: 5}, {Signals: []api.Signal{sig(0, 0)}}, {Start: -1, Now: -1}, {Now: 20000, Signals: []api.Signal{sig(1, 10000)}}}
	times := []api.Span{{}, span(1, 1), span(1, api.MaxTime), span(0, 1), span(1, 0), span(5, 4), span(-1, 5), span(1, api.MaxTime+1), span(math.MinInt, math.MaxInt), span(math.MaxInt, math.MinInt)}
	valid := 0
	for set := range 4 {
		for _, time := range times {
			for _, ride := range rides {
				d := api.Descent{Out: set&1 > 0, Fixed: set&2 > 0, Time: time, Ride: ride}
				idle := ride.Start == 0 && ride.Now == 0 && len(ride.Signals) == 0
				_, e := beam.Ran(line(), ride)
				ok := false
				switch set {
				case 0:
					ok = time == api.Span{} && e == api.OK
				case 1:
					ok = time == api.Span{} && idle
				case 2:
					ok = idle && time.Lo >= 1 && time.Lo <= time.Hi && time.Hi <= api.MaxTime
				}
				want := api.ErrRace
				if ok {
					want = api.OK
					valid++
				}
				for _, heat := range ints(0, 1) {
					x := ask()
					x.r.Heats[heat][1] = d
					checked(t, d, x, want, all())
				}
			}
		}
	}
	// Two rides, what is out and two times that are fixed, those with a nil and with an empty list.
	if valid != 2+2+2*2 {
		t.Error(valid)
	}
}

// P6.1: a ride has to be valid, to have a truth, and to come to the finish in some truth.
func TestRidesThatDoNotRun(t *testing.T) {
	for i, x := range []struct {
		change func(r *api.Race)
		ok     bool
	}{
		{func(r *api.Race) {}, true},
		{func(r *api.Race) { r.Heats[0][0].Ride.Signals = slices.Repeat([]api.Signal{sig(0, 10600)}, 2) }, false},
		{func(r *api.Race) { r.Line.Fakes = 0 }, false},
		{func(r *api.Race) { r.Line.Finish = 2 }, true}, {func(r *api.Race) { r.Line.Finish, r.Line.Misses = 2, 0 }, false}, {func(r *api.Race) { r.Line.Finish, r.Heats[0][0].Ride.Now = 2, 15095 }, false}, {func(r *api.Race) { r.Line.Finish, r.Heats[0][0].Ride.Now = 2, 15096 }, true},
		// Nothing was heard of the first beam, nor of the second one.
		{func(r *api.Race) { r.Line.Finish, r.Heats[0][0].Ride.Signals = 0, nil }, true}, {func(r *api.Race) { r.Line.Finish, r.Heats[0][0].Ride.Signals = 1, nil }, false},
		{func(r *api.Race) { r.Heats[0][0].Ride.Now = 12595 }, false},
	} {
		y, want := ask(), api.ErrRace
		if x.ok {
			want = api.OK
		}
		x.change(&y.r)
		checked(t, i, y, want, all())
	}
}

// P6.1, R1: all errors of a line come before those of the race.
func TestErrorsOfLines(t *testing.T) {
	for i, change := range []func(l *api.Line){
		func(l *api.Line) { l.Fast = 0 }, func(l *api.Line) { l.Clocks = nil }, func(l *api.Line) { l.Clocks[0].Syncs[1].Ahead = span(60, 60) }, func(l *api.Line) { l.Beams[0].Spot.Off.Lo = 0 }, func(l *api.Line) { l.Beams[2].Clock = 1 }, func(l *api.Line) { l.Finish = 3 }, func(l *api.Line) { l.Fakes = 4 }, func(l *api.Line) { l.Misses = -1 },
		func(l *api.Line) { l.Track.Stretches = nil }, func(l *api.Line) { l.Fast, l.Track.Stretches[0].Id = 0, -1 }, func(l *api.Line) { l.Fast, l.Track.Stretches[0].Side = 0, 3 }, func(l *api.Line) { l.Track.Stretches[0].Wall = -1 },
	} {
		for _, turn := range ints(-1, 2) {
			x, want := ask(), api.ErrLine
			if i > 7 {
				want = api.ErrTrack
			}
			change(&x.r.Line)
			x.r.Turn = turn
			checked(t, i, x, want, all())
		}
	}
}

// R1, R2: errors are told in the order of the descriptions, and nothing with them.
func TestErrorsInOrder(t *testing.T) {
	kinds := []struct {
		make func(x *asked)
		e    api.Errno
		told []string
	}{
		{func(x *asked) { x.r.Line.Track.Stretches[0].Long.Lo = 0 }, api.ErrTrack, all()},
		{func(x *asked) { x.r.Line.Fast = 0 }, api.ErrLine, all()},
		{func(x *asked) { x.r.Turn = -1 }, api.ErrRace, all()},
		{func(x *asked) { x.heat = 3 }, api.ErrArg, []string{"Time", "Order", "Repair", "Touched"}},
		{func(x *asked) { x.sled = -1 }, api.ErrArg, ofSleds()},
		{func(x *asked) { x.other = 3 }, api.ErrArg, []string{"Before", "Tied"}},
		{func(x *asked) { x.time.Lo = 0 }, api.ErrArg, []string{"Repair", "Touched"}},
		{func(x *asked) { x.r.Heats[0][2] = out() }, api.ErrBad, []string{"Repair", "Touched"}},
		{func(x *asked) { x.r.Heats[0][2] = out() }, api.ErrNone, []string{"Time", "Sum", "Ranks", "Before", "Tied"}},
	}
	for set := range 1 << len(kinds) {
		x, want := ask(), map[string]api.Errno{}
		// What comes first is made last, so that nothing else undoes it.
		for i := len(kinds) - 1; i >= 0; i-- {
			if set>>i&1 == 0 {
				continue
			}
			kinds[i].make(&x)
			for _, name := range kinds[i].told {
				want[name] = kinds[i].e
			}
		}
		if outs := set >> 7; outs == 1 || outs == 2 {
			// Who is out is told by both kinds of functions.
			continue
		}
		for _, r := range calls(x) {
			if r.e != want[r.name] || r.e != api.OK && r.text != r.zero {
				t.Error(set, r, want[r.name])
			}
		}
	}
}

// P6.3, R1: two sleds have to differ, also where one has no sum, which the other one may lack as well.
func TestTwoSledsDiffer(t *testing.T) {
	for i, r := range []api.Race{
		of([]api.Descent{fixed(5, 6), out(), fixed(7, 8)}, []api.Descent{fixed(5, 6), fixed(5, 6), out()}),
		of([]api.Descent{out(), out(), out()}),
	} {
		for a := -1; a < 4; a++ {
			for b := -1; b < 4; b++ {
				want := api.ErrNone
				if a == b || min(a, b) < 0 || max(a, b) > 2 {
					want = api.ErrArg
				}
				x, e := race.Before(r, a, b)
				y, f := race.Tied(r, a, b)
				if x != 0 || y != 0 || e != want || f != want {
					t.Error(i, a, b, x, e, y, f)
				}
			}
		}
	}
}
