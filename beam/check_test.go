package beam_test

import (
	"math"
	"slices"
	"testing"

	"kreisel/api"
	"kreisel/beam"
)

// far are numbers that no field allows.
var far = []int{math.MinInt, math.MinInt + 1, math.MinInt32, math.MaxInt32 + 1, math.MaxInt - 1, math.MaxInt}

// An asked is all that a call may be asked about.
type asked struct {
	l         api.Line
	r         api.Ride
	s         api.Signal
	clock, at int
	beam      int
}

// ask returns what the chapter's examples ask about.
func ask() asked { return asked{run(), down(), sig(0, 10600), 0, 50000, 1} }

// plain returns what may be asked about if a line has two clocks that may be whatever they are.
func plain() asked {
	x := ask()
	x.l.Clocks = []api.Clock{{Drift: 100, Syncs: []api.Sync{{}}}, {Drift: 100, Syncs: []api.Sync{{}}}}
	return x
}

// A result is what a call returned, as a list of numbers.
type result struct {
	name    string
	numbers []int
	e       api.Errno
}

func same(a, b result) bool {
	return a.name == b.name && a.e == b.e && slices.Equal(a.numbers, b.numbers)
}

// calls calls all functions.
func calls(x asked) []result {
	ahead, e1 := beam.Ahead(x.l, x.clock, x.at)
	when, e2 := beam.When(x.l, x.s)
	least, e3 := beam.Least(x.l, x.beam)
	where, e4 := beam.Where(x.l, x.r)
	clear, e5 := beam.Clear(x.l, x.r)
	passed, e6 := beam.Passed(x.l, x.r, x.beam)
	ran, e7 := beam.Ran(x.l, x.r)
	wrong, e8 := beam.False(x.l, x.r)
	lost, e9 := beam.Missed(x.l, x.r)
	return []result{
		{"Check", nil, beam.Check(x.l)}, {"Ahead", ints(ahead.Lo, ahead.Hi), e1}, {"When", ints(when.Lo, when.Hi), e2}, {"Least", ints(least), e3},
		{"Where", where, e4}, {"Clear", ints(int(clear)), e5}, {"Passed", ints(passed.Lo, passed.Hi), e6}, {"Ran", ints(ran.Lo, ran.Hi), e7}, {"False", wrong, e8}, {"Missed", lost, e9},
	}
}

// Which functions tell of what is not valid.
func all() []string { return append(ofLines(), ofRides()...) }

func ofLines() []string { return []string{"Check", "Ahead", "When", "Least"} }

func ofRides() []string { return []string{"Where", "Clear", "Passed", "Ran", "False", "Missed"} }

// zero tells whether all numbers are 0.
func zero(numbers []int) bool {
	return !slices.ContainsFunc(numbers, func(n int) bool { return n != 0 })
}

// checked reports each call that has to return an error and does not, with nothing else, and each other one that returns an error of its arguments.
func checked(t *testing.T, about any, x asked, want api.Errno, by []string) {
	t.Helper()
	for _, r := range calls(x) {
		tells := want != api.OK && slices.Contains(by, r.name)
		if tells && r.e != want || r.e != api.OK && !zero(r.numbers) || !tells && slices.Contains([]api.Errno{api.ErrTrack, api.ErrLine, api.ErrRide, api.ErrArg}, r.e) {
			t.Error(about, r, want)
		}
	}
}

// A number is one that is asked about, from where to where it may be, and by which functions.
type number struct {
	name   string
	of     func(x *asked) *int
	lo, hi int
	e      api.Errno
	by     []string
}

func numbers() []number {
	const most = api.MaxClock
	return []number{
		{"Fast", func(x *asked) *int { return &x.l.Fast }, 1, api.MaxFast, api.ErrLine, all()},
		{"Finish", func(x *asked) *int { return &x.l.Finish }, 0, 2, api.ErrLine, all()},
		{"Fakes", func(x *asked) *int { return &x.l.Fakes }, 0, api.MaxFakes, api.ErrLine, all()},
		{"Misses", func(x *asked) *int { return &x.l.Misses }, 0, api.MaxMisses, api.ErrLine, all()},
		{"Drift", func(x *asked) *int { return &x.l.Clocks[1].Drift }, 0, api.MaxDrift, api.ErrLine, all()},
		{"At", func(x *asked) *int { return &x.l.Clocks[1].Syncs[0].At }, 0, most, api.ErrLine, all()},
		{"Clock of a beam", func(x *asked) *int { return &x.l.Beams[2].Clock }, 0, 1, api.ErrLine, all()},
		{"Stretch of a beam", func(x *asked) *int { return &x.l.Beams[2].Spot.Stretch }, 0, 0, api.ErrLine, all()},
		{"Start", func(x *asked) *int { return &x.r.Start }, 0, 20000, api.ErrRide, ofRides()},
		{"Now", func(x *asked) *int { return &x.r.Now }, 10000, most, api.ErrRide, ofRides()},
		{"Beam of a signal", func(x *asked) *int { return &x.r.Signals[2].Beam }, 0, 2, api.ErrRide, ofRides()},
		{"Read of a signal", func(x *asked) *int { return &x.r.Signals[2].Read }, 0, most, api.ErrRide, ofRides()},
		{"Beam of one signal", func(x *asked) *int { return &x.s.Beam }, 0, 2, api.ErrArg, []string{"When"}},
		{"Read of one signal", func(x *asked) *int { return &x.s.Read }, 0, most, api.ErrArg, []string{"When"}},
		{"clock", func(x *asked) *int { return &x.clock }, 0, 1, api.ErrArg, []string{"Ahead"}},
		{"at", func(x *asked) *int { return &x.at }, 0, most, api.ErrArg, []string{"Ahead"}},
		{"beam", func(x *asked) *int { return &x.beam }, 0, 2, api.ErrArg, []string{"Least", "Passed"}},
	}
}

// P5.1, P5.2, P5.4, R5: each number has its ends, and however far it is beyond them is the same error.
func TestNumbersHaveEnds(t *testing.T) {
	for _, f := range numbers() {
		for _, n := range []int{f.lo, (f.lo + f.hi) / 2, f.hi} {
			x := plain()
			*f.of(&x) = n
			checked(t, []any{f.name, n}, x, api.OK, nil)
		}
		for _, n := range append([]int{f.lo - 1, f.hi + 1}, far...) {
			x := plain()
			*f.of(&x) = n
			checked(t, []any{f.name, n}, x, f.e, f.by)
		}
	}
}

// P5.1, R5: how much a clock was ahead has its ends, in order; so has where a beam is.
func TestSpansHaveEnds(t *testing.T) {
	for _, f := range []struct {
		name   string
		of     func(x *asked) *api.Span
		lo, hi int
	}{
		{"Ahead", func(x *asked) *api.Span { return &x.l.Clocks[1].Syncs[0].Ahead }, -api.MaxAhead, api.MaxAhead},
		// Behind the start and before the second beam; between the first one and the third one; behind the second one and on the stretch for sure.
		{"Off of 0", func(x *asked) *api.Span { return &x.l.Beams[0].Spot.Off }, 1, 3999},
		{"Off of 1", func(x *asked) *api.Span { return &x.l.Beams[1].Spot.Off }, 1001, 8999},
		{"Off of 2", func(x *asked) *api.Span { return &x.l.Beams[2].Spot.Off }, 4001, 9999},
	} {
		middle := (f.lo + f.hi) / 2
		right := []api.Span{span(f.lo, f.hi), span(f.lo, f.lo), span(f.hi, f.hi), span(middle, middle)}
		wrong := []api.Span{span(f.hi, f.lo), span(middle+1, middle), span(f.lo-1, f.hi), span(f.lo, f.hi+1), span(f.lo-1, f.lo-1), span(f.hi+1, f.hi+1)}
		for _, n := range far {
			wrong = append(wrong, span(n, f.hi), span(f.lo, n), span(n, n))
		}
		for _, s := range right {
			x := plain()
			*f.of(&x) = s
			checked(t, []any{f.name, s}, x, api.OK, nil)
		}
		for _, s := range wrong {
			x := plain()
			*f.of(&x) = s
			checked(t, []any{f.name, s}, x, api.ErrLine, all())
		}
	}
}

// P5.1, P5.2: lists are not shorter nor longer than their limits.
func TestListsHaveLimits(t *testing.T) {
	for _, f := range []struct {
		name        string
		least, most int
		fill        func(x *asked, n int)
		e           api.Errno
		by          []string
	}{
		{"Stretches", 1, api.MaxStretches, func(x *asked, n int) {
			x.l.Track.Stretches = nil
			for i := range n {
				x.l.Track.Stretches = append(x.l.Track.Stretches, api.Stretch{Id: i, Long: span(10000, 10000)})
			}
		}, api.ErrTrack, all()},
		{"Clocks", 1, api.MaxClocks, func(x *asked, n int) { x.l.Clocks = slices.Repeat(x.l.Clocks[:1], n) }, api.ErrLine, all()},
		{"Syncs", 1, api.MaxSyncs, func(x *asked, n int) {
			x.l.Clocks[1].Syncs = nil
			for i := range n {
				x.l.Clocks[1].Syncs = append(x.l.Clocks[1].Syncs, api.Sync{At: 7 * i})
			}
		}, api.ErrLine, all()},
		{"Beams", 1, api.MaxBeams, func(x *asked, n int) {
			x.l.Beams, x.l.Finish, x.beam, x.r.Signals = nil, 0, 0, nil
			for i := range n {
				x.l.Beams = append(x.l.Beams, api.Beam{Spot: at(0, i+1, i+1)})
			}
		}, api.ErrLine, all()},
		{"Signals", 0, api.MaxSignals, func(x *asked, n int) {
			x.r.Signals = nil
			for i := range n {
				x.r.Signals = append(x.r.Signals, sig(2, i))
			}
		}, api.ErrRide, ofRides()},
	} {
		for n := range f.most + 4 {
			x, want := plain(), api.OK
			if n < f.least || n > f.most {
				want = f.e
			}
			f.fill(&x, n)
			checked(t, []any{f.name, n}, x, want, f.by)
		}
	}
}

// P5.1: syncs are by their times, no two with the same one; two of a clock, one behind the other or not, contradict each other if it cannot drift as much.
func TestSyncsThatContradictEachOther(t *testing.T) {
	sync := func(at, lo, hi int) api.Sync { return api.Sync{At: at, Ahead: span(lo, hi)} }
	for i, x := range []struct {
		drift int
		syncs []api.Sync
		ok    bool
	}{
		{100, []api.Sync{sync(5, 0, 0), sync(5, 0, 0)}, false}, {100, []api.Sync{sync(5, 0, 0), sync(4, 0, 0)}, false}, {100, []api.Sync{sync(5, 0, 0), sync(6, 0, 0)}, true},
		// Without a drift a number has to be in all of them.
		{0, []api.Sync{sync(0, 0, 5), sync(9, 5, 7)}, true}, {0, []api.Sync{sync(0, 0, 5), sync(9, 6, 7)}, false}, {0, []api.Sync{sync(0, 6, 7), sync(9, 0, 5)}, false}, {0, []api.Sync{sync(0, -3, 5), sync(9, -7, -3)}, true}, {0, []api.Sync{sync(0, -3, 5), sync(9, -7, -4)}, false},
		// In 10,001 it drifts by 2.
		{100, []api.Sync{sync(1, 0, 5), sync(10002, 7, 9)}, true}, {100, []api.Sync{sync(1, 0, 5), sync(10002, 8, 9)}, false}, {100, []api.Sync{sync(1, 0, 5), sync(10001, 7, 9)}, false}, {100, []api.Sync{sync(1, 7, 9), sync(10002, 0, 5)}, true}, {100, []api.Sync{sync(1, 8, 9), sync(10002, 0, 5)}, false},
		// Each one agrees with the next one, but the first one not with the last one.
		{100, []api.Sync{sync(0, 0, 0), sync(20000, 0, 10), sync(40000, 5, 5)}, false}, {100, []api.Sync{sync(0, 0, 0), sync(20000, 0, 10), sync(40000, 4, 4)}, true},
		{100, []api.Sync{sync(0, 5, 5), sync(20000, 0, 10), sync(40000, 0, 0)}, false}, {100, []api.Sync{sync(0, 0, 9), sync(10, 0, 9), sync(20, 0, 9), sync(30, 0, 0), sync(40, 2, 2)}, false}, {100, []api.Sync{sync(0, 0, 9), sync(10, 0, 9), sync(20, 0, 9), sync(30, 0, 0), sync(40, 1, 1)}, true},
		// The farthest.
		{1000, []api.Sync{sync(0, -10000, -10000), sync(20000000, 10000, 10000)}, true}, {1000, []api.Sync{sync(0, -10000, -10000), sync(19999000, 10000, 10000)}, false}, {1000, []api.Sync{sync(0, 10000, 10000), sync(19999001, -10000, -10000)}, true},
	} {
		for clock := range 2 {
			y, want := plain(), api.ErrLine
			if x.ok {
				want = api.OK
			}
			y.l.Clocks[clock] = api.Clock{Drift: x.drift, Syncs: x.syncs}
			checked(t, []any{i, clock}, y, want, all())
		}
	}
}

// P5.1: each beam is surely behind the one before, by other stretches as well.
func TestBeamsBehindEachOther(t *testing.T) {
	for i, x := range []struct {
		spots []api.Spot
		ok    bool
	}{
		{[]api.Spot{at(0, 1, 1)}, true}, {[]api.Spot{at(0, 0, 0)}, false}, {[]api.Spot{at(0, 0, 9)}, false}, {[]api.Spot{at(1, 0, 0)}, true},
		{[]api.Spot{at(0, 5, 8), at(0, 9, 9)}, true}, {[]api.Spot{at(0, 5, 8), at(0, 8, 9)}, false}, {[]api.Spot{at(0, 5, 8), at(0, 5, 8)}, false}, {[]api.Spot{at(0, 5, 8), at(0, 1, 2)}, false},
		// The first stretch is 100 long at least.
		{[]api.Spot{at(0, 50, 99), at(1, 0, 0)}, true}, {[]api.Spot{at(0, 50, 100), at(1, 0, 0)}, false}, {[]api.Spot{at(1, 0, 0), at(0, 99, 99)}, false}, {[]api.Spot{at(1, 3, 5), at(1, 6, 7)}, true},
		{[]api.Spot{at(0, 5, 5), at(1, 19, 19)}, true}, {[]api.Spot{at(0, 5, 5), at(1, 20, 20)}, false}, {[]api.Spot{at(0, 5, 5), at(2, 0, 0)}, false}, {[]api.Spot{at(0, 5, 5), at(-1, 0, 0)}, false}, {[]api.Spot{at(0, 5, 5), at(1, 4, 3)}, false}, {[]api.Spot{at(0, 5, 5), at(1, -1, 3)}, false},
		{[]api.Spot{at(0, 5, 5), at(0, 6, 6), at(0, 7, 7)}, true}, {[]api.Spot{at(0, 5, 5), at(0, 7, 7), at(0, 6, 6)}, false}, {[]api.Spot{at(2, 5, 5), at(0, 7, 7), at(1, 6, 6)}, false},
	} {
		y, want := plain(), api.ErrLine
		if x.ok {
			want = api.OK
		}
		y.l.Track.Stretches = []api.Stretch{{Id: 3, Long: span(100, 130)}, {Id: 5, Long: span(20, 40)}}
		y.l.Beams, y.l.Finish, y.beam, y.r.Signals = nil, 0, 0, nil
		for _, s := range x.spots {
			y.l.Beams = append(y.l.Beams, api.Beam{Spot: s, Clock: 1})
		}
		checked(t, i, y, want, all())
	}
}

// P5.2: signals are in the order of beams, then of what was read, no two the same.
func TestSignalsInOrder(t *testing.T) {
	for i, x := range []struct {
		signals []api.Signal
		ok      bool
	}{
		{nil, true}, {[]api.Signal{}, true}, {[]api.Signal{sig(0, 5), sig(0, 6)}, true}, {[]api.Signal{sig(0, 5), sig(0, 5)}, false}, {[]api.Signal{sig(0, 6), sig(0, 5)}, false}, {[]api.Signal{sig(0, 6), sig(1, 5)}, true}, {[]api.Signal{sig(0, 6), sig(2, 6)}, true}, {[]api.Signal{sig(1, 5), sig(0, 6)}, false}, {[]api.Signal{sig(2, 5), sig(1, 5)}, false},
		{[]api.Signal{sig(0, 5), sig(1, 5), sig(1, 6), sig(2, 0)}, true}, {[]api.Signal{sig(0, 5), sig(1, 5), sig(1, 5), sig(2, 0)}, false}, {[]api.Signal{sig(0, 5), sig(1, 5), sig(2, 6), sig(2, 0)}, false},
	} {
		y, want := plain(), api.ErrRide
		if x.ok {
			want = api.OK
		}
		y.r.Signals = x.signals
		checked(t, i, y, want, ofRides())
	}
}

// R1, R2: errors are told in the order of the descriptions, and nothing with them.
func TestErrorsInOrder(t *testing.T) {
	kinds := []struct {
		make func(x *asked)
		e    api.Errno
		told []string
	}{
		{func(x *asked) { x.l.Track.Stretches[0].Long.Lo = 0 }, api.ErrTrack, all()},
		{func(x *asked) { x.l.Fast = 0 }, api.ErrLine, all()},
		{func(x *asked) { x.r.Now = 9999 }, api.ErrRide, ofRides()},
		{func(x *asked) { x.clock, x.beam, x.s.Beam = 1, 3, -1 }, api.ErrArg, []string{"Ahead", "When", "Least", "Passed"}},
		{func(x *asked) { x.l.Fakes = 0 }, api.ErrBad, ofRides()},
		{func(x *asked) {
			x.beam, x.l.Finish, x.r.Now = 2, 2, 15000
			x.s.Read, x.l.Clocks[0].Syncs[0].Ahead = 0, span(2, 2)
		}, api.ErrNone, []string{"When", "Passed", "Ran"}},
	}
	for set := range 1 << len(kinds) {
		x, want := ask(), map[string]api.Errno{}
		// What comes first is made last, so that nothing else undoes it.
		for i := len(kinds) - 1; i >= 0; i-- {
			if set>>i&1 == 0 {
				continue
			}
			kinds[i].make(&x)
			for _, name := range kinds[i].told {
				want[name] = kinds[i].e
			}
		}
		for _, r := range calls(x) {
			if r.e != want[r.name] || r.e != api.OK && !zero(r.numbers) {
				t.Error(set, r, want[r.name])
			}
		}
	}
}

// P5.1, R1: all errors of a track come before those of the line.
func TestErrorsOfTracks(t *testing.T) {
	for i, s := range []api.Stretch{
		{Id: -1, Long: span(9500, 9600)}, {Long: span(9600, 9500)}, {Long: span(0, 9500)}, {Long: span(9500, 9600), Fall: span(-1, 0)}, {Long: span(9500, 9600), Side: 3}, {Long: span(9500, 9600), Side: 1}, {Long: span(9500, 9600), Wall: 5001},
	} {
		for _, fast := range ints(-1, 2000) {
			x := plain()
			x.l.Track.Stretches[0], x.l.Fast = s, fast
			checked(t, i, x, api.ErrTrack, all())
		}
	}
}
