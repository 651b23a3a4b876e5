package beam_test

import (
	"math/rand/v2"
	"slices"
	"testing"

	"kreisel/api"
	"kreisel/beam"
)

func span(lo, hi int) api.Span { return api.Span{Lo: lo, Hi: hi} }

func ints(l ...int) []int { return l }

func at(stretch, lo, hi int) api.Spot { return api.Spot{Stretch: stretch, Off: span(lo, hi)} }

func sig(beam, read int) api.Signal { return api.Signal{Beam: beam, Read: read} }

// run returns the line of the chapter's examples, changed.
func run(change ...func(l *api.Line)) api.Line {
	l := api.Line{
		Track: api.Track{Stretches: []api.Stretch{{Id: 4, Long: span(10000, 10200)}}}, Fast: 2000,
		Clocks: []api.Clock{{Drift: 100, Syncs: []api.Sync{{Ahead: span(0, 2)}, {At: 100000, Ahead: span(5, 6)}}}},
		Beams:  []api.Beam{{Spot: at(0, 1000, 1000)}, {Spot: at(0, 4000, 4000)}, {Spot: at(0, 9000, 9000)}},
		Finish: 1, Fakes: 1, Misses: 1,
	}
	for _, c := range change {
		c(&l)
	}
	return l
}

// down returns the ride of the chapter's examples, changed.
func down(change ...func(r *api.Ride)) api.Ride {
	r := api.Ride{Start: 10000, Now: 20000, Signals: []api.Signal{sig(0, 10600), sig(0, 11000), sig(1, 12600)}}
	for _, c := range change {
		c(&r)
	}
	return r
}

// dice throw numbers that are the same in each run of the tests.
type dice struct{ *rand.Rand }

func newDice(seed uint64) dice { return dice{rand.New(rand.NewPCG(seed, 5))} }

func (d dice) from(lo, hi int) int { return lo + d.IntN(hi-lo+1) }

// span throws a span with ends from lo to hi that is at most wide.
func (d dice) span(lo, hi, wide int) api.Span {
	l := d.from(lo, hi)
	return span(l, min(hi, l+d.from(0, wide)))
}

// around throws a span that has a number, and ends from lo to hi.
func (d dice) around(n, wide, lo, hi int) api.Span {
	return span(max(lo, n-d.from(0, wide)), min(hi, n+d.from(0, wide)))
}

// driftOf returns what a clock drifts from one time to another one, word for word.
func driftOf(c api.Clock, a, b int) int {
	time := max(a, b) - min(a, b)
	n := time * c.Drift / 1000000
	if n*1000000 < time*c.Drift {
		n++
	}
	return n
}

// mayBe tells whether a clock may be ahead by a number at a time, word for word.
func mayBe(c api.Clock, time, ahead int) bool {
	for _, s := range c.Syncs {
		drift := driftOf(c, time, s.At)
		if ahead < s.Ahead.Lo-drift || ahead > s.Ahead.Hi+drift {
			return false
		}
	}
	return true
}

// isTime tells whether a time is one of a signal, word for word.
func isTime(l api.Line, s api.Signal, time int) bool {
	return time >= 0 && time <= api.MaxClock && mayBe(l.Clocks[l.Beams[s.Beam].Clock], time, s.Read-time)
}

// placeOf returns the least place of a beam, if it is the later one of two, and the greatest one, if it is the earlier one; all stretches before the stretch from are left out.
func placeOf(l api.Line, beam, from int) api.Span {
	s := l.Beams[beam].Spot
	place := s.Off
	for _, x := range l.Track.Stretches[from:s.Stretch] {
		place = span(place.Lo+x.Long.Lo, place.Hi+x.Long.Hi)
	}
	return place
}

// needOf returns the least time to a beam, word for word.
func needOf(l api.Line, beam int) int {
	way := placeOf(l, beam, 0).Lo
	if beam > 0 {
		// What is before the stretch of the beam before does not matter.
		before := l.Beams[beam-1].Spot
		way = placeOf(l, beam, before.Stretch).Lo - before.Off.Hi
	}
	n := way * 1000 / l.Fast
	if n*l.Fast < way*1000 {
		n++
	}
	return n
}

// missed stands for no signal.
const missed = -1

// A truth is when a sled passed beams, and by which signals.
type truth struct{ times, signals []int }

// truths goes through all truths of a ride, word for word.
func truths(l api.Line, r api.Ride, each func(x truth)) {
	var pass func(x truth, misses int)
	pass = func(x truth, misses int) {
		passed := len(x.times)
		if len(r.Signals)-(passed-misses) <= l.Fakes && misses <= l.Misses {
			each(x)
		}
		if passed == len(l.Beams) {
			return
		}
		from := r.Start
		if passed > 0 {
			from = x.times[passed-1]
		}
		for time := from + needOf(l, passed); time <= r.Now; time++ {
			times := append(slices.Clip(x.times), time)
			pass(truth{times, append(slices.Clip(x.signals), missed)}, misses+1)
			for i, s := range r.Signals {
				if s.Beam == passed && isTime(l, s, time) {
					pass(truth{times, append(slices.Clip(x.signals), i)}, misses)
				}
			}
		}
	}
	pass(truth{}, 0)
}

// A story is all that is told of a ride.
type story struct {
	where         []int
	clear         uint8
	passed        map[int]api.Span // of beams that the sled passed in some truth
	false, missed []int
}

// A teller puts together what truths tell.
type teller struct {
	counts     map[int]bool
	passed     map[int]api.Span
	right, hit map[int]bool // signals that were right, and beams that did not miss the sled
}

func newTeller() teller {
	return teller{map[int]bool{}, map[int]api.Span{}, map[int]bool{}, map[int]bool{}}
}

// add adds all truths in which the sled passed as many beams by the same signals, between some times.
func (x teller) add(times []api.Span, signals []int) {
	x.counts[len(times)] = true
	for i, s := range times {
		if old, ok := x.passed[i]; ok {
			s = span(min(s.Lo, old.Lo), max(s.Hi, old.Hi))
		}
		x.passed[i] = s
		if signals[i] != missed {
			x.right[signals[i]], x.hit[i] = true, true
		}
	}
}

// tell returns the story, if there was a truth.
func (x teller) tell(l api.Line, r api.Ride) (story, bool) {
	s := story{passed: x.passed}
	for n := range len(l.Beams) + 1 {
		if x.counts[n] {
			s.where = append(s.where, n)
		}
	}
	if len(s.where) == 0 {
		return story{}, false
	}
	behind := 0
	for _, n := range s.where {
		if n > l.Finish {
			behind++
		}
	}
	switch behind {
	case len(s.where):
		s.clear = api.KnownYes
	case 0:
		s.clear = api.KnownNo
	default:
		s.clear = api.KnownOpen
	}
	for i := range r.Signals {
		if !x.right[i] {
			s.false = append(s.false, i)
		}
	}
	for i := range s.where[0] {
		if !x.hit[i] {
			s.missed = append(s.missed, i)
		}
	}
	return s, true
}

// storyOf returns the story of a ride from all of its truths, if it has one.
func storyOf(l api.Line, r api.Ride) (story, bool) {
	all := newTeller()
	truths(l, r, func(x truth) {
		var times []api.Span
		for _, n := range x.times {
			times = append(times, span(n, n))
		}
		all.add(times, x.signals)
	})
	return all.tell(l, r)
}

// storyBySignals returns the story of a ride, whose times may be great, from all ways to choose signals that were right: with each of them a beam is passed between two times.
func storyBySignals(l api.Line, r api.Ride) (story, bool) {
	all := newTeller()
	var choose func(signals []int, misses int)
	choose = func(signals []int, misses int) {
		times, ok := between(l, r, signals)
		if !ok {
			return
		}
		passed := len(signals)
		if len(r.Signals)-(passed-misses) <= l.Fakes && misses <= l.Misses {
			all.add(times, signals)
		}
		if passed == len(l.Beams) {
			return
		}
		choose(append(slices.Clip(signals), missed), misses+1)
		for i, s := range r.Signals {
			if s.Beam == passed {
				choose(append(slices.Clip(signals), i), misses)
			}
		}
	}
	choose(nil, 0)
	return all.tell(l, r)
}

// between returns between which times beams are passed if some signals are right, and whether they can be.
func between(l api.Line, r api.Ride, signals []int) ([]api.Span, bool) {
	times := make([]api.Span, len(signals))
	for i, signal := range signals {
		times[i] = span(r.Start, r.Now)
		if signal != missed {
			w, e := beam.When(l, r.Signals[signal])
			if e != api.OK {
				return nil, false
			}
			times[i] = span(max(w.Lo, r.Start), min(w.Hi, r.Now))
		}
		before := r.Start
		if i > 0 {
			before = times[i-1].Lo
		}
		times[i].Lo = max(times[i].Lo, before+needOf(l, i))
	}
	for i := len(times) - 1; i >= 0; i-- {
		if i+1 < len(times) {
			times[i].Hi = min(times[i].Hi, times[i+1].Hi-needOf(l, i+1))
		}
		if times[i].Lo > times[i].Hi {
			return nil, false
		}
	}
	return times, true
}

// told returns the story that the calls tell, and the error of all of them.
func told(t *testing.T, l api.Line, r api.Ride) (story, api.Errno) {
	t.Helper()
	s := story{passed: map[int]api.Span{}}
	where, e := beam.Where(l, r)
	clear, e1 := beam.Clear(l, r)
	wrong, e2 := beam.False(l, r)
	lost, e3 := beam.Missed(l, r)
	if e1 != e || e2 != e || e3 != e {
		t.Fatal("errors that differ:", l, r, e, e1, e2, e3)
	}
	s.where, s.clear, s.false, s.missed = where, clear, wrong, lost
	for i := range l.Beams {
		p, e4 := beam.Passed(l, r, i)
		ran, e5 := api.Span{}, e4
		if i == l.Finish {
			ran, e5 = beam.Ran(l, r)
		}
		switch {
		case e4 != e5 || e != api.OK && e4 != e || e == api.OK && e4 != api.OK && e4 != api.ErrNone || e4 != api.OK && p != span(0, 0):
			t.Fatal("Passed:", l, r, i, p, e4, e5)
		case e4 == api.OK:
			s.passed[i] = p
		}
		if i == l.Finish && e4 == api.OK && ran != span(p.Lo-r.Start, p.Hi-r.Start) || e4 != api.OK && ran != span(0, 0) {
			t.Fatal("Ran:", l, r, p, ran)
		}
	}
	return s, e
}

// mustTell returns the story that the calls tell; it has to have a truth.
func mustTell(t *testing.T, l api.Line, r api.Ride) story {
	t.Helper()
	s, e := told(t, l, r)
	if e != api.OK {
		t.Fatal("no story:", l, r, e)
	}
	return s
}

func equal(a, b story) bool {
	return slices.Equal(a.where, b.where) && a.clear == b.clear && slices.Equal(a.false, b.false) && slices.Equal(a.missed, b.missed) && inside(a, b) && inside(b, a)
}

// inside tells whether another story has all truths of a story, as far as can be told.
func inside(a, b story) bool {
	for i, p := range a.passed {
		if q, ok := b.passed[i]; !ok || q.Lo > p.Lo || q.Hi < p.Hi {
			return false
		}
	}
	for _, n := range a.where {
		if !slices.Contains(b.where, n) {
			return false
		}
	}
	for _, i := range b.false {
		if !slices.Contains(a.false, i) {
			return false
		}
	}
	for _, i := range b.missed {
		if !slices.Contains(a.missed, i) {
			return false
		}
	}
	return a.clear == b.clear || b.clear == api.KnownOpen
}
