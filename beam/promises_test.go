package beam_test

import (
	"math"
	"slices"
	"testing"

	"kreisel/api"
	"kreisel/beam"
)

// both throws a small line or a great one, with a ride on it.
func (d dice) both() (trueLine, trueRide) {
	if d.from(0, 1) == 0 {
		l := d.small()
		return l, d.smallRide(l)
	}
	l := d.great()
	return l, d.greatRide(l)
}

// P5.6, P5.8: whatever a sled did, where it truly is is told, when it passed each beam, and how long it came; nothing is surely false, or missed, that was not; the run is never told to be clear before the sled is behind the finish.
func TestWhereASledIsIsTold(t *testing.T) {
	d := newDice(11)
	seen := map[uint8]int{}
	wrong, lost := 0, 0
	for range 4000 {
		l, r := d.both()
		s := mustTell(t, l.Line, r.Ride)
		if !slices.Contains(s.where, len(r.times)) {
			t.Error("Where:", l, r, s)
		}
		behind := len(r.times) > l.Finish
		if s.clear == api.KnownYes && !behind || s.clear == api.KnownNo && behind {
			t.Error("Clear:", l, r, s)
		}
		for i, time := range r.times {
			if p, ok := s.passed[i]; !ok || time < p.Lo || time > p.Hi {
				t.Error("Passed:", l, r, i, s)
			}
			if i != l.Finish {
				continue
			}
			if ran, e := beam.Ran(l.Line, r.Ride); e != api.OK || time-r.Start < ran.Lo || time-r.Start > ran.Hi {
				t.Error("Ran:", l, r, ran, e)
			}
		}
		for _, i := range s.false {
			x := r.Signals[i]
			if x.Beam < len(r.times) && !slices.Contains(r.missed, x.Beam) {
				if n, _ := l.reads(x.Beam, r.times[x.Beam]); n == x.Read {
					t.Error("False:", l, r, s)
				}
			}
		}
		for _, i := range s.missed {
			if !slices.Contains(r.missed, i) {
				t.Error("Missed:", l, r, s)
			}
		}
		seen[s.clear]++
		wrong, lost = wrong+len(s.false), lost+len(s.missed)
	}
	if seen[0] < 500 || seen[1] < 500 || seen[2] < 500 || wrong < 500 || lost < 200 {
		t.Error("too few of a sort:", seen, wrong, lost)
	}
}

// P5.8: what is told of clocks is true; a sync more makes no span wider, and at its time the clock is ahead by what was found.
func TestSyncsMore(t *testing.T) {
	d := newDice(13)
	narrower := 0
	for range 2000 {
		l, r := d.both()
		i := d.IntN(len(l.clocks))
		c := l.clocks[i]
		time := d.from(0, []int{100, 500000}[d.IntN(2)])
		if s, e := beam.Ahead(l.Line, i, time); e != api.OK || c.ahead(time) < s.Lo || c.ahead(time) > s.Hi {
			t.Error("Ahead:", c, time, s, e)
		}
		isThere := slices.ContainsFunc(c.Syncs, func(s api.Sync) bool { return s.At == time })
		if isThere || len(c.Syncs) == api.MaxSyncs {
			continue
		}
		more := l.Line
		more.Clocks = slices.Clone(l.Clocks)
		sync := d.sync(c, time, d.from(0, 2))
		syncs := append(slices.Clone(c.Syncs), sync)
		slices.SortFunc(syncs, func(a, b api.Sync) int { return a.At - b.At })
		more.Clocks[i].Syncs = syncs
		if s, e := beam.Ahead(more, i, time); e != api.OK || s.Lo < sync.Ahead.Lo || s.Hi > sync.Ahead.Hi {
			t.Error("Ahead where it was compared:", c, sync, s, e)
		}
		for range 5 {
			at := d.from(0, 500000)
			a, _ := beam.Ahead(l.Line, i, at)
			b, e := beam.Ahead(more, i, at)
			if e != api.OK || b.Lo < a.Lo || b.Hi > a.Hi {
				t.Error("Ahead:", c, sync, at, a, b, e)
			}
			x := sig(d.IntN(len(l.Beams)), at)
			a, e = beam.When(l.Line, x)
			b, f := beam.When(more, x)
			if f == api.OK && (e != api.OK || b.Lo < a.Lo || b.Hi > a.Hi) {
				t.Error("When:", l, c, sync, x, a, e, b, f)
			}
		}
		a, b := mustTell(t, l.Line, r.Ride), mustTell(t, more, r.Ride)
		if !inside(b, a) {
			t.Error("a truth more:", l, sync, r, a, b)
		}
		if !equal(a, b) {
			narrower++
		}
	}
	if narrower < 50 {
		t.Error("too few syncs that matter:", narrower)
	}
}

// noTruthIsLost reports rides that lose a truth by a change, which has to matter for some of them.
func noTruthIsLost(t *testing.T, d dice, change func(l *trueLine, r *trueRide)) {
	t.Helper()
	wider := 0
	for range 2000 {
		l, r := d.both()
		before := mustTell(t, l.Line, r.Ride)
		change(&l, &r)
		after := mustTell(t, l.Line, r.Ride)
		if !inside(before, after) {
			t.Error(l, r, before, after)
		}
		if !equal(before, after) {
			wider++
		}
	}
	if wider < 500 {
		t.Error("too few for which it matters:", wider)
	}
}

// P5.9: with more false signals, or misses, that may be, no truth is lost.
func TestMoreFalseSignalsAndMisses(t *testing.T) {
	d := newDice(17)
	noTruthIsLost(t, d, func(l *trueLine, _ *trueRide) {
		l.Fakes, l.Misses = d.from(l.Fakes, api.MaxFakes), d.from(l.Misses, api.MaxMisses)
	})
}

// P5.10: as time goes on, without a signal more, no truth is lost.
func TestAsTimeGoesOn(t *testing.T) {
	d := newDice(29)
	noTruthIsLost(t, d, func(_ *trueLine, r *trueRide) { r.Now += d.from(0, []int{3, 10000, 80000000}[d.IntN(3)]) })
}

// P5.12: a faster sled may be where a slower one may be.
func TestFasterSleds(t *testing.T) {
	d := newDice(37)
	noTruthIsLost(t, d, func(l *trueLine, _ *trueRide) { l.Fast = d.from(l.Fast, api.MaxFast) })
}

// P5.9: without both, each signal is right, and each beam that was passed has one.
func TestWithoutFalseSignalsAndMisses(t *testing.T) {
	d := newDice(19)
	found := 0
	for range 2000 {
		l, r := d.both()
		l.Fakes, l.Misses = 0, 0
		s, e := told(t, l.Line, r.Ride)
		n := len(r.Signals)
		each := true
		for i, x := range r.Signals {
			each = each && x.Beam == i
		}
		if e == api.OK && (!each || !slices.Equal(s.where, ints(n)) || len(s.passed) != n || len(s.false) > 0 || len(s.missed) > 0) || e != api.OK && e != api.ErrBad {
			t.Error(l, r, s, e)
		}
		if e == api.OK && n > 0 {
			found++
		}
		if r.fakes == 0 && len(r.missed) == 0 && e != api.OK {
			t.Error("a true ride:", l, r, e)
		}
	}
	if found < 200 {
		t.Error("too few rides with a truth:", found)
	}
}

// later returns a line and a ride on a later time of the day.
func later(l api.Line, r api.Ride, by int) (api.Line, api.Ride) {
	l.Clocks = slices.Clone(l.Clocks)
	for i := range l.Clocks {
		syncs := slices.Clone(l.Clocks[i].Syncs)
		for k := range syncs {
			syncs[k].At += by
		}
		l.Clocks[i].Syncs = syncs
	}
	r.Signals = slices.Clone(r.Signals)
	for i := range r.Signals {
		r.Signals[i].Read += by
	}
	r.Start, r.Now = r.Start+by, r.Now+by
	return l, r
}

// P5.10: if all is later by as much, all that is told is later by as much.
func TestLaterByAsMuch(t *testing.T) {
	d := newDice(23)
	for range 1000 {
		l, r := d.both()
		by := d.from(0, []int{9, 1000000, 85000000}[d.IntN(3)])
		k, q := later(l.Line, r.Ride, by)
		a, b := mustTell(t, l.Line, r.Ride), mustTell(t, k, q)
		for i, p := range b.passed {
			b.passed[i] = span(p.Lo-by, p.Hi-by)
		}
		if !equal(a, b) {
			t.Error(l, r, by, a, b)
		}
		ran, e := beam.Ran(l.Line, r.Ride)
		if n, f := beam.Ran(k, q); n != ran || e != f {
			t.Error("Ran:", l, r, by, ran, e, n, f)
		}
		for i := range l.Clocks {
			time := d.from(0, 1000000)
			x, _ := beam.Ahead(l.Line, i, time)
			if y, e := beam.Ahead(k, i, time+by); e != api.OK || x != y {
				t.Error("Ahead:", l, i, time, by, x, y, e)
			}
		}
		for i := range l.Beams {
			read := d.from(10000, 1000000)
			x, e := beam.When(l.Line, sig(i, read))
			if y, f := beam.When(k, sig(i, read+by)); e != f || e == api.OK && y != span(x.Lo+by, x.Hi+by) {
				t.Error("When:", l, i, read, by, x, e, y, f)
			}
		}
	}
}

// P5.11: a signal that is surely false may be left out if one less may be false: nothing else changes.
func TestWithoutASignalThatIsFalse(t *testing.T) {
	d := newDice(31)
	found := 0
	for range 3000 {
		l, r := d.both()
		a := mustTell(t, l.Line, r.Ride)
		for k, out := range a.false {
			want := a
			want.false = nil
			for i, n := range a.false {
				if i < k {
					want.false = append(want.false, n)
				} else if i > k {
					want.false = append(want.false, n-1)
				}
			}
			less, without := l.Line, r.Ride
			less.Fakes--
			without.Signals = slices.Delete(slices.Clone(r.Signals), out, out+1)
			if b := mustTell(t, less, without); !equal(b, want) {
				t.Error(l, r, out, a, b)
			}
			found++
		}
	}
	if found < 500 {
		t.Error("too few signals that are surely false:", found)
	}
}

// P5.12: the least time to a beam is what the least way needs, and less than a thousandth more.
func TestLeastTimesAreNotLess(t *testing.T) {
	d := newDice(39)
	for range 2000 {
		l, _ := d.both()
		for i := range l.Beams {
			way := placeOf(l.Line, i, 0).Lo
			if i > 0 {
				before := l.Beams[i-1].Spot
				way = placeOf(l.Line, i, before.Stretch).Lo - before.Off.Hi
			}
			if n, e := beam.Least(l.Line, i); e != api.OK || n*l.Fast < way*1000 || (n-1)*l.Fast >= way*1000 {
				t.Error(l, i, n, e)
			}
		}
	}
}

// R5, P5.1, P5.2: no number overflows, and no call takes long, at the greatest numbers that are allowed.
func TestGreatestNumbers(t *testing.T) {
	var l api.Line
	for i := range api.MaxStretches {
		l.Track.Stretches = append(l.Track.Stretches, api.Stretch{Id: i, Long: span(api.MaxLong, api.MaxLong)})
	}
	for range api.MaxClocks {
		c := api.Clock{Drift: api.MaxDrift}
		for k := range api.MaxSyncs {
			c.Syncs = append(c.Syncs, api.Sync{At: k * api.MaxClock / 4, Ahead: span(-api.MaxAhead, api.MaxAhead)})
		}
		l.Clocks = append(l.Clocks, c)
	}
	for i := range api.MaxBeams {
		l.Beams = append(l.Beams, api.Beam{Spot: at(2*i+1, 0, api.MaxLong-1), Clock: i % api.MaxClocks})
	}
	l.Beams[5].Spot.Off = span(api.MaxLong-1, api.MaxLong-1)
	l.Finish, l.Fakes, l.Misses, l.Fast = 5, api.MaxFakes, api.MaxMisses, 1
	for i, want := range ints(30000000, 30001000, 30001000, 30001000, 30001000, 60000000) {
		if n, e := beam.Least(l, i); n != want || e != api.OK {
			t.Error(i, n, e)
		}
	}
	// At a centimetre in a second a sled comes to the second beam in a day, and not to the third one.
	s := mustTell(t, l, api.Ride{Now: api.MaxClock})
	if !equal(s, story{ints(0, 1, 2), api.KnownNo, map[int]api.Span{0: span(30000000, api.MaxClock), 1: span(60001000, api.MaxClock)}, nil, nil}) {
		t.Error(s)
	}
	l.Fast = api.MaxFast
	r := api.Ride{Now: api.MaxClock}
	for i := range api.MaxBeams + api.MaxFakes {
		r.Signals = append(r.Signals, sig(i*6/9, 10000000+i*7000))
	}
	want, ok := storyBySignals(l, r)
	if s := mustTell(t, l, r); !ok || !equal(s, want) {
		t.Error(s, want, ok)
	}
	for range 300 {
		mustTell(t, l, r)
	}
	// One more cannot be right, nor false.
	r.Signals = append(r.Signals, sig(5, api.MaxClock))
	if s, e := told(t, l, r); e != api.ErrBad {
		t.Error(s, e)
	}
	// Half of what a clock drifts in a quarter of a day, between two syncs.
	if a, e := beam.Ahead(l, 0, api.MaxClock/8); a != span(-20800, 20800) || e != api.OK {
		t.Error(a, e)
	}
	for _, x := range []struct{ read, lo, hi int }{{0, 0, 10000}, {api.MaxClock, api.MaxClock - 10000, api.MaxClock}} {
		// Near to the ends of the day it drifts by at most 10 and some more in 10,010.
		if s, e := beam.When(l, sig(0, x.read)); e != api.OK || s.Hi-s.Lo < 10000 || s.Hi-s.Lo > 10011 || s.Lo != 0 && s.Hi != api.MaxClock {
			t.Error(x, s, e)
		}
	}
}

// R3: no argument is written to, nor the memory behind its end.
func TestNoArgumentIsWrittenTo(t *testing.T) {
	x := ask()
	stretches := append(x.l.Track.Stretches, api.Stretch{Id: 4}, api.Stretch{Id: 44})
	clocks := append(x.l.Clocks, api.Clock{Drift: 4}, api.Clock{Drift: 44})
	syncs := append(x.l.Clocks[0].Syncs, api.Sync{At: 4}, api.Sync{At: 44})
	beams := append(x.l.Beams, api.Beam{Clock: 4}, api.Beam{Clock: 44})
	signals := append(x.r.Signals, sig(4, 4), sig(44, 44))
	x.l.Track.Stretches, x.l.Clocks, x.l.Beams, x.r.Signals = stretches[:1], clocks[:1], beams[:3], signals[:3]
	x.l.Clocks[0].Syncs = syncs[:2]
	calls(x)
	if !slices.Equal(stretches, append(run().Track.Stretches, api.Stretch{Id: 4}, api.Stretch{Id: 44})) {
		t.Error("stretches:", stretches)
	}
	if len(clocks) != 3 || clocks[0].Drift != 100 || len(clocks[0].Syncs) != 2 || clocks[1].Drift != 4 || clocks[2].Drift != 44 || clocks[1].Syncs != nil || clocks[2].Syncs != nil {
		t.Error("clocks:", clocks)
	}
	if !slices.Equal(syncs, append(run().Clocks[0].Syncs, api.Sync{At: 4}, api.Sync{At: 44})) {
		t.Error("syncs:", syncs)
	}
	if !slices.Equal(beams, append(run().Beams, api.Beam{Clock: 4}, api.Beam{Clock: 44})) {
		t.Error("beams:", beams)
	}
	if !slices.Equal(signals, append(down().Signals, sig(4, 4), sig(44, 44))) {
		t.Error("signals:", signals)
	}
}

// R4: a nil list and an empty one are the same.
func TestNilAndEmpty(t *testing.T) {
	for _, change := range []func(x *asked, none bool){
		func(x *asked, none bool) { x.r.Signals = map[bool][]api.Signal{false: {}}[none] },
		func(x *asked, none bool) { x.l.Clocks = map[bool][]api.Clock{false: {}}[none] },
		func(x *asked, none bool) { x.l.Beams = map[bool][]api.Beam{false: {}}[none] },
		func(x *asked, none bool) { x.l.Clocks[0].Syncs = map[bool][]api.Sync{false: {}}[none] },
		func(x *asked, none bool) { x.l.Track.Stretches = map[bool][]api.Stretch{false: {}}[none] },
	} {
		x, y := ask(), ask()
		change(&x, true)
		change(&y, false)
		if a, b := calls(x), calls(y); !slices.EqualFunc(a, b, same) {
			t.Error(a, b)
		}
	}
}

// spoil writes to all memory of results.
func spoil(x asked) {
	where, _ := beam.Where(x.l, x.r)
	clear(where[:cap(where)])
	wrong, _ := beam.False(x.l, x.r)
	clear(wrong[:cap(wrong)])
	lost, _ := beam.Missed(x.l, x.r)
	clear(lost[:cap(lost)])
}

// R3: a result shares no memory with another one, and nothing is remembered from one call to another.
func TestCallsAreTheSameAgain(t *testing.T) {
	d := newDice(41)
	var list []asked
	var first [][]result
	for range 100 {
		l, r := d.both()
		x := asked{l.Line, r.Ride, sig(d.IntN(len(l.Beams)), d.from(0, 100000)), d.IntN(len(l.Clocks)), d.from(0, 100000), d.IntN(len(l.Beams))}
		list, first = append(list, x), append(first, calls(x))
	}
	for i := len(list) - 1; i >= 0; i-- {
		spoil(list[i])
		for range 3 {
			if again := calls(list[i]); !slices.EqualFunc(again, first[i], same) {
				t.Error(list[i], again, first[i])
			}
		}
	}
}

// R5, R7: no call panics, whatever its arguments are.
func TestNoCallPanics(t *testing.T) {
	d := newDice(43)
	ends := []int{math.MinInt, -10000, -1000, -1, 0, 1, 2, 3, 5, 6, 10, 1000, 5000, 10000, 86400000, 86400001, math.MaxInt}
	pick := func() int { return ends[d.IntN(len(ends))] }
	anySpan := func() api.Span { return span(pick(), pick()) }
	for range 20000 {
		l, r := d.both()
		x := asked{l.Line, r.Ride, sig(pick(), pick()), pick(), pick(), pick()}
		switch d.from(0, 8) {
		case 0:
			x.l.Fast, x.l.Finish = pick(), pick()
		case 1:
			x.l.Fakes, x.l.Misses = pick(), pick()
		case 2:
			x.l.Clocks[d.IntN(len(x.l.Clocks))] = api.Clock{Drift: pick(), Syncs: []api.Sync{{At: pick(), Ahead: anySpan()}, {At: pick(), Ahead: anySpan()}}}
		case 3:
			x.l.Beams[d.IntN(len(x.l.Beams))] = api.Beam{Clock: pick(), Spot: api.Spot{Stretch: pick(), Off: anySpan()}}
		case 4:
			x.l.Beams = slices.Repeat(x.l.Beams, d.from(0, 3))
		case 5:
			x.l.Track.Stretches[0].Long = anySpan()
		case 6:
			x.r.Start, x.r.Now = pick(), pick()
		case 7:
			x.r.Signals = []api.Signal{sig(pick(), pick()), sig(pick(), pick())}
		case 8:
			x.l.Clocks, x.r.Signals = slices.Repeat(x.l.Clocks, d.from(0, 3)), slices.Repeat(x.r.Signals, d.from(0, 9))
		}
		calls(x)
	}
}
