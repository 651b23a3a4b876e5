package beam_test

import (
	"testing"

	"kreisel/api"
	"kreisel/beam"
)

// P5.1: the chapter's examples of clocks and ways.
func TestExamplesOfClocks(t *testing.T) {
	for _, x := range []struct {
		at   int
		want api.Span
	}{{10000, span(-1, 3)}, {100000, span(5, 6)}, {50000, span(0, 7)}} {
		if s, e := beam.Ahead(run(), 0, x.at); s != x.want || e != api.OK {
			t.Error(x.at, s, e)
		}
	}
	if s, e := beam.When(run(), sig(0, 10600)); s != span(10596, 10602) || e != api.OK {
		t.Error(s, e)
	}
	for i, want := range ints(500, 1500, 2500) {
		if n, e := beam.Least(run(), i); n != want || e != api.OK {
			t.Error(i, n, e)
		}
	}
}

// P5.2 to P5.5: the chapter's examples of a ride, and what is near to them.
func TestExamplesOfARide(t *testing.T) {
	seen := func(l *api.Line) { l.Misses = 0 }
	for i, x := range []struct {
		l    api.Line
		r    api.Ride
		want story
	}{
		{run(), down(), story{ints(2, 3), api.KnownYes, map[int]api.Span{0: span(10596, 11002), 1: span(12596, 12602), 2: span(15096, 20000)}, nil, nil}},
		// The third beam can miss it at 15,096, and no time before.
		{run(), down(func(r *api.Ride) { r.Now = 15095 }), story{ints(2), api.KnownYes, map[int]api.Span{0: span(10596, 11002), 1: span(12596, 12602)}, nil, nil}},
		{run(), down(func(r *api.Ride) { r.Now = 15096 }), story{ints(2, 3), api.KnownYes, map[int]api.Span{0: span(10596, 11002), 1: span(12596, 12602), 2: span(15096, 15096)}, nil, nil}},
		// One signal at least is right, so that the first two beams did not both miss it.
		{run(func(l *api.Line) { l.Fakes, l.Misses = 2, 2 }), down(), story{ints(1, 2, 3), api.KnownOpen, map[int]api.Span{0: span(10500, 11102), 1: span(12096, 20000), 2: span(14596, 20000)}, nil, nil}},
		// With a later finish it is not known.
		{run(func(l *api.Line) { l.Finish = 2 }), down(), story{ints(2, 3), api.KnownOpen, map[int]api.Span{0: span(10596, 11002), 1: span(12596, 12602), 2: span(15096, 20000)}, nil, nil}},
		// The signal of the first beam is right, or the sled is not that far.
		{run(seen), api.Ride{Start: 10000, Now: 11000, Signals: []api.Signal{sig(0, 10600)}}, story{ints(0, 1), api.KnownNo, map[int]api.Span{0: span(10596, 10602)}, nil, nil}},
		{run(seen), api.Ride{Start: 10000, Now: 10598, Signals: []api.Signal{sig(0, 10600)}}, story{ints(0, 1), api.KnownNo, map[int]api.Span{0: span(10596, 10598)}, nil, nil}},
		// Too early for the first beam: snow, and the beam may have missed the sled.
		{run(), api.Ride{Start: 10000, Now: 11000, Signals: []api.Signal{sig(0, 10490)}}, story{ints(0, 1), api.KnownNo, map[int]api.Span{0: span(10500, 11000)}, ints(0), nil}},
		// The signal of the second beam tells that the first one missed the sled.
		{run(func(l *api.Line) { l.Fakes = 0 }), api.Ride{Start: 10000, Now: 13000, Signals: []api.Signal{sig(1, 12600)}}, story{ints(2), api.KnownYes, map[int]api.Span{0: span(10500, 11102), 1: span(12596, 12602)}, nil, ints(0)}},
	} {
		s, e := told(t, x.l, x.r)
		if e != api.OK || !equal(s, x.want) {
			t.Error(i, s, e, x.want)
		}
	}
	if s, e := told(t, run(func(l *api.Line) { l.Fakes = 0 }), down()); e != api.ErrBad {
		t.Error(s, e)
	}
}

// P5.1: by how much a clock is ahead, the times of a signal, and the least time to a beam, word for word.
func TestClocksAndWaysWordForWord(t *testing.T) {
	d := newDice(1)
	none := 0
	for range 400 {
		l := d.small()
		if d.from(0, 1) == 0 {
			l = d.great()
		}
		for i := range l.Beams {
			if n, e := beam.Least(l.Line, i); n != needOf(l.Line, i) || e != api.OK {
				t.Error("Least:", l, i, n, e)
			}
		}
		for i, c := range l.Clocks {
			for range 5 {
				time := []int{d.from(0, 40), d.from(0, 500000), d.from(0, api.MaxClock), api.MaxClock}[d.IntN(4)]
				s, e := beam.Ahead(l.Line, i, time)
				if e != api.OK || s.Lo > s.Hi || !mayBe(c, time, s.Lo) || !mayBe(c, time, s.Hi) || mayBe(c, time, s.Lo-1) || mayBe(c, time, s.Hi+1) {
					t.Error("Ahead:", c, time, s, e)
				}
			}
		}
		for i := range l.Beams {
			read := []int{d.from(0, 10), d.from(0, 3000), d.from(0, api.MaxClock)}[d.IntN(3)]
			x := sig(i, read)
			s, e := beam.When(l.Line, x)
			if e == api.ErrNone {
				s = span(0, -1)
				none++
			} else if e != api.OK || !isTime(l.Line, x, s.Lo) || !isTime(l.Line, x, s.Hi) {
				t.Error("When:", l, x, s, e)
			}
			// No times are farther from what is read than a clock can be ahead.
			for range 300 {
				time := d.from(s.Lo-20, s.Hi+20)
				if e == api.ErrNone {
					time = d.from(read-4000, read+4000)
				}
				if isTime(l.Line, x, time) != (s.Lo <= time && time <= s.Hi) {
					t.Error("When:", l, x, s, e, time)
				}
			}
		}
	}
	if none < 5 {
		t.Error("too few signals without a time:", none)
	}
}

// storiesAreRight reports rides of which something else is told than a story that was found in another way; of each sort there have to be some.
func storiesAreRight(t *testing.T, d dice, rides, least int, throw func() (api.Line, api.Ride), find func(l api.Line, r api.Ride) (story, bool)) {
	t.Helper()
	seen := map[string]int{"bad": 0, "no": 0, "open": 0, "yes": 0, "false": 0, "missed": 0}
	for range rides {
		l, r := throw()
		// Some rides have no truth, or another one than the true one.
		if d.from(0, 2) == 0 {
			l.Fakes, l.Misses = d.from(0, api.MaxFakes), d.from(0, api.MaxMisses)
		}
		want, ok := find(l, r)
		s, e := told(t, l, r)
		if ok != (e == api.OK) || !ok && e != api.ErrBad || ok && !equal(s, want) {
			t.Error(l, r, s, e, want, ok)
		}
		if !ok {
			seen["bad"]++
			continue
		}
		seen[[]string{"no", "open", "yes"}[s.clear]]++
		seen["false"] += min(1, len(s.false))
		seen["missed"] += min(1, len(s.missed))
	}
	for sort, n := range seen {
		if n < least {
			t.Error("too few of a sort:", sort, n)
		}
	}
}

// P5.2 to P5.5, P5.7: all that is told is what all truths tell, that are gone through word for word.
func TestAllTruthsOfSmallRides(t *testing.T) {
	d := newDice(2)
	storiesAreRight(t, d, 6000, 50, func() (api.Line, api.Ride) {
		l := d.small()
		return l.Line, d.smallRide(l).Ride
	}, storyOf)
}

// P5.2 to P5.5, P5.7: so it is for rides with great times, by all ways to choose signals.
func TestAllTruthsOfGreatRides(t *testing.T) {
	d := newDice(3)
	storiesAreRight(t, d, 3000, 100, func() (api.Line, api.Ride) {
		l := d.great()
		return l.Line, d.greatRide(l).Ride
	}, storyBySignals)
}

// P5.1: a clock that jumps from one sync to the next one has no time for what it would read between them.
func TestASignalWithoutATime(t *testing.T) {
	l := run(func(l *api.Line) {
		l.Clocks[0] = api.Clock{Drift: 1000, Syncs: []api.Sync{{At: 999, Ahead: span(9, 9)}, {At: 1000, Ahead: span(10, 10)}}}
	})
	for _, x := range []struct {
		read int
		want api.Span
		e    api.Errno
	}{{1008, span(998, 999), api.OK}, {1009, span(0, 0), api.ErrNone}, {1010, span(1000, 1001), api.OK}} {
		if s, e := beam.When(l, sig(0, x.read)); s != x.want || e != x.e {
			t.Error(x.read, s, e)
		}
	}
	// A ride for which it is all that was heard: snow.
	s, e := told(t, l, api.Ride{Start: 0, Now: 2000, Signals: []api.Signal{sig(0, 1009)}})
	if e != api.OK || !equal(s, story{ints(0, 1), api.KnownNo, map[int]api.Span{0: span(500, 2000)}, ints(0), nil}) {
		t.Error(s, e)
	}
}

// P5.1: times of a signal end with the day.
func TestTimesEndWithTheDay(t *testing.T) {
	l := run(func(l *api.Line) { l.Clocks[0] = api.Clock{Syncs: []api.Sync{{Ahead: span(-3, 5)}}} })
	for _, x := range []struct {
		read int
		want api.Span
		e    api.Errno
	}{
		{0, span(0, 3), api.OK}, {5, span(0, 8), api.OK}, {6, span(1, 9), api.OK},
		{api.MaxClock, span(api.MaxClock-5, api.MaxClock), api.OK}, {api.MaxClock - 3, span(api.MaxClock-8, api.MaxClock), api.OK}, {api.MaxClock - 4, span(api.MaxClock-9, api.MaxClock-1), api.OK},
	} {
		if s, e := beam.When(l, sig(2, x.read)); s != x.want || e != x.e {
			t.Error(x.read, s, e)
		}
	}
	// Of a clock that is surely ahead, or behind.
	for _, x := range []struct {
		ahead, read int
		want        api.Span
		e           api.Errno
	}{
		{7, 6, span(0, 0), api.ErrNone}, {7, 7, span(0, 0), api.OK}, {-7, api.MaxClock - 7, span(api.MaxClock, api.MaxClock), api.OK}, {-7, api.MaxClock - 6, span(0, 0), api.ErrNone}, {-7, api.MaxClock, span(0, 0), api.ErrNone},
	} {
		l := run(func(l *api.Line) {
			l.Clocks[0].Drift, l.Clocks[0].Syncs = 0, []api.Sync{{Ahead: span(x.ahead, x.ahead)}}
		})
		if s, e := beam.When(l, sig(2, x.read)); s != x.want || e != x.e {
			t.Error(x, s, e)
		}
	}
}

// P5.1: what a clock drifts is rounded up.
func TestDriftsAreRoundedUp(t *testing.T) {
	for _, x := range []struct{ drift, time, want int }{
		{0, api.MaxClock, 0}, {1, 0, 0}, {1, 1, 1}, {1, 1000000, 1}, {1, 1000001, 2}, {1000, 1000, 1}, {1000, 1001, 2}, {1000, api.MaxClock, 86400}, {999, api.MaxClock, 86314}, {3, 333333, 1}, {3, 333334, 2},
	} {
		l := run(func(l *api.Line) { l.Clocks[0] = api.Clock{Drift: x.drift, Syncs: []api.Sync{{}}} })
		if s, e := beam.Ahead(l, 0, x.time); s != span(-x.want, x.want) || e != api.OK {
			t.Error(x, s, e)
		}
		l.Clocks[0].Syncs[0].At = api.MaxClock
		if s, e := beam.Ahead(l, 0, api.MaxClock-x.time); s != span(-x.want, x.want) || e != api.OK {
			t.Error(x, s, e)
		}
	}
}

// P5.4: a sled that stands still may have been at the start for as long as the ride is.
func TestASledMayStop(t *testing.T) {
	l := run(func(l *api.Line) { l.Fakes, l.Misses = 0, 0 })
	for _, now := range ints(10000, 10500, 11000, api.MaxClock) {
		s, e := told(t, l, api.Ride{Start: 10000, Now: now})
		if e != api.OK || !equal(s, story{where: ints(0)}) {
			t.Error(now, s, e)
		}
	}
	late := api.Ride{Start: 10000, Now: 86000000, Signals: []api.Signal{sig(0, 10600), sig(1, 85000000)}}
	s := mustTell(t, l, late)
	if s.clear != api.KnownYes || s.passed[0] != span(10596, 10602) || s.passed[1].Lo < 84000000 {
		t.Error(s)
	}
}

// P5.2: a ride may begin and end at the ends of a day.
func TestRidesAtTheEndsOfADay(t *testing.T) {
	for _, x := range []struct {
		start, now int
		want       story
	}{
		{0, 0, story{where: ints(0)}}, {api.MaxClock, api.MaxClock, story{where: ints(0)}},
		{0, api.MaxClock, story{where: ints(0, 1, 2, 3), clear: api.KnownOpen, passed: map[int]api.Span{0: span(500, api.MaxClock), 1: span(2000, api.MaxClock), 2: span(4500, api.MaxClock)}}},
	} {
		l := run(func(l *api.Line) { l.Misses = 3 })
		s, e := told(t, l, api.Ride{Start: x.start, Now: x.now})
		if e != api.OK || !equal(s, x.want) {
			t.Error(x, s, e)
		}
	}
}
