package jury_test

import (
	"fmt"
	"math/rand/v2"
	"slices"
	"testing"

	"kreisel/api"
	"kreisel/beam"
	"kreisel/jury"
)

func span(lo, hi int) api.Span { return api.Span{Lo: lo, Hi: hi} }

func ints(l ...int) []int { return l }

func lists(l ...[]int) [][]int { return l }

func spot(lo, hi int) api.Spot { return api.Spot{Off: span(lo, hi)} }

func sig(beam, read int) api.Signal { return api.Signal{Beam: beam, Read: read} }

func fixed(lo, hi int) api.Descent { return api.Descent{Fixed: true, Time: span(lo, hi)} }

func out() api.Descent { return api.Descent{Out: true} }

func ride(start, now int, l ...api.Signal) api.Descent {
	return api.Descent{Ride: api.Ride{Start: start, Now: now, Signals: l}}
}

// down returns a descent that is the ride of layer 5's examples: from 10,000 to 12,596 to 12,602.
func down() api.Descent { return ride(10000, 20000, sig(0, 10600), sig(0, 11000), sig(1, 12600)) }

func wind(from, to int) api.Fault { return api.Fault{Kind: api.FaultWind, From: from, To: to} }

func ice(section, from, to int) api.Fault {
	return api.Fault{Kind: api.FaultIce, Where: section, From: from, To: to}
}

func dark(beam, from, to int) api.Fault {
	return api.Fault{Kind: api.FaultBeam, Where: beam, From: from, To: to}
}

func protest(id, sled, heat, fault, at int) api.Protest {
	return api.Protest{Id: id, Sled: sled, Heat: heat, Fault: fault, At: at}
}

// line returns the line of layer 5's examples.
func line() api.Line {
	return api.Line{
		Track: api.Track{Stretches: []api.Stretch{{Id: 4, Long: span(10000, 10200)}}}, Fast: 2000,
		Clocks: []api.Clock{{Drift: 100, Syncs: []api.Sync{{Ahead: span(0, 2)}, {At: 100000, Ahead: span(5, 6)}}}},
		Beams:  []api.Beam{{Spot: spot(1000, 1000)}, {Spot: spot(4000, 4000)}, {Spot: spot(9000, 9000)}},
		Finish: 1, Fakes: 1, Misses: 1,
	}
}

// winter returns the jury of the chapter's examples, changed.
func winter(change ...func(j *api.Jury)) api.Jury {
	j := api.Jury{
		Race: api.Race{
			Line: line(), Sleds: ints(4, 7, 9), Draw: ints(2, 0, 1), Turn: 2,
			Heats: [][]api.Descent{{down(), fixed(2600, 2600), fixed(2580, 2609)}, {fixed(2555, 2559), fixed(2540, 2549), fixed(2570, 2575)}},
		},
		Faults:   []api.Fault{wind(12600, 13000), ice(1, 11003, 11100), dark(0, 10700, 10900), wind(13000, 14000)},
		Protests: []api.Protest{protest(2, 0, 0, 0, 72596), protest(5, 0, 0, 1, 72603), protest(6, 0, 0, 3, 20000)},
		Minutes:  1, Fee: 500,
	}
	for _, c := range change {
		c(&j)
	}
	return j
}

// of returns a jury of a race of some heats, with faults, and no protests.
func of(l api.Line, heats [][]api.Descent, faults ...api.Fault) api.Jury {
	j := api.Jury{Race: api.Race{Line: l, Heats: heats}, Faults: faults, Minutes: 1, Fee: 100}
	for i := range heats[0] {
		j.Race.Sleds, j.Race.Draw = append(j.Race.Sleds, 3*i), append(j.Race.Draw, i)
	}
	return j
}

// dice throw numbers that are the same in each run of the tests.
type dice struct{ *rand.Rand }

func newDice(seed uint64) dice { return dice{rand.New(rand.NewPCG(seed, 7))} }

func (d dice) from(lo, hi int) int { return lo + d.IntN(hi-lo+1) }

// span throws a span with ends from lo to hi that is at most wide.
func (d dice) span(lo, hi, wide int) api.Span {
	l := d.from(lo, hi)
	return span(l, min(hi, l+d.from(0, wide)))
}

// truths goes through the times at which a sled passed beams, in all truths of a ride, word for word.
func truths(l api.Line, r api.Ride, each func(times []int)) {
	var pass func(times []int, right, missed int)
	pass = func(times []int, right, missed int) {
		if len(r.Signals)-right <= l.Fakes && missed <= l.Misses {
			each(times)
		}
		passed, from := len(times), r.Start
		if passed == len(l.Beams) {
			return
		}
		if passed > 0 {
			from = times[passed-1]
		}
		least, _ := beam.Least(l, passed)
		for time := from + least; time <= r.Now; time++ {
			more := append(slices.Clip(times), time)
			pass(more, right, missed+1)
			for _, s := range r.Signals {
				if w, e := beam.When(l, s); s.Beam == passed && e == api.OK && time >= w.Lo && time <= w.Hi {
					pass(more, right+1, missed)
				}
			}
		}
	}
	pass(nil, 0, 0)
}

// A crossing is whether a sled passed something in some truth, and in each one, and between which times.
type crossing struct {
	some, each bool
	times      api.Span
}

// byTruths returns the crossings of all beams from all truths of a ride.
func byTruths(l api.Line, r api.Ride) []crossing {
	all := make([]crossing, len(l.Beams))
	for i := range all {
		all[i].each = true
	}
	truths(l, r, func(times []int) {
		for i := range all {
			c := &all[i]
			switch {
			case i >= len(times):
				c.each = false
			case !c.some:
				c.some, c.times = true, span(times[i], times[i])
			default:
				c.times = span(min(c.times.Lo, times[i]), max(c.times.Hi, times[i]))
			}
		}
	})
	return all
}

// byBeams returns the crossings of all beams as layer 5 tells them.
func byBeams(l api.Line, r api.Ride) []crossing {
	where, _ := beam.Where(l, r)
	var all []crossing
	for i := range l.Beams {
		times, e := beam.Passed(l, r, i)
		all = append(all, crossing{e == api.OK, !slices.ContainsFunc(where, func(n int) bool { return n <= i }), times})
	}
	return all
}

// A teller tells of which beams were passed when in a ride.
type teller func(l api.Line, r api.Ride) []crossing

// ends returns when a sled came in and out, word for word.
func ends(l api.Line, r api.Ride, passed []crossing, f api.Fault) (in, out crossing) {
	start := crossing{true, true, span(r.Start, r.Start)}
	switch {
	case f.Kind == api.FaultWind:
		in, out = start, passed[l.Finish]
	case f.Kind == api.FaultBeam:
		in, out = passed[f.Where], passed[f.Where]
	case f.Where == 0:
		in, out = start, passed[0]
	default:
		in, out = passed[f.Where-1], passed[f.Where]
	}
	if !out.some {
		out.times.Lo = api.MaxClock
	}
	if !out.each {
		out.times.Hi = api.MaxClock
	}
	return in, out
}

// touchOf returns whether a fault touches a ride, word for word.
func touchOf(l api.Line, r api.Ride, by teller, f api.Fault) uint8 {
	passed := by(l, r)
	in, out := ends(l, r, passed, f)
	surely := in.each && in.times.Hi <= f.To && out.times.Lo >= f.From
	if f.Kind == api.FaultBeam {
		p := passed[f.Where]
		surely = p.each && p.times.Lo >= f.From && p.times.Hi <= f.To
	}
	switch {
	case surely:
		return api.KnownYes
	case in.some && in.times.Lo <= f.To && out.times.Hi >= f.From:
		return api.KnownOpen
	}
	return api.KnownNo
}

// A story is all that is told of a jury: touch by faults, heats and sleds.
type story struct {
	touch      [][][]uint8
	hit        [][][]int
	late       []uint8
	grants     []int
	repeats    [][]int
	back, kept int
	purses     []int
}

// equal compares stories; nil is written as an empty list.
func equal(a, b story) bool { return fmt.Sprint(a) == fmt.Sprint(b) }

// storyOf returns the story of a valid jury, word for word.
func storyOf(j api.Jury, by teller) story {
	s := story{purses: make([]int, len(j.Race.Sleds))}
	for _, f := range j.Faults {
		var touch [][]uint8
		var hit [][]int
		for _, heat := range j.Race.Heats {
			known, may := make([]uint8, len(heat)), ints()
			for sled, d := range heat {
				if !d.Out && !d.Fixed {
					known[sled] = touchOf(j.Race.Line, d.Ride, by, f)
				}
				if known[sled] > 0 {
					may = append(may, sled)
				}
			}
			touch, hit = append(touch, known), append(hit, may)
		}
		s.touch, s.hit = append(s.touch, touch), append(s.hit, hit)
	}
	for i, p := range j.Protests {
		r := j.Race.Heats[p.Heat][p.Sled].Ride
		_, finish := ends(j.Race.Line, r, by(j.Race.Line, r), wind(0, 0))
		late := uint8(api.KnownOpen)
		switch {
		case p.At <= finish.times.Lo+j.Minutes*60000:
			late = api.KnownNo
		case p.At > finish.times.Hi+j.Minutes*60000:
			late = api.KnownYes
		}
		s.late = append(s.late, late)
		if s.touch[p.Fault][p.Heat][p.Sled] > 0 && late < api.KnownYes {
			s.grants = append(s.grants, i)
			s.back += j.Fee
		} else {
			s.kept += j.Fee
			s.purses[p.Sled] -= j.Fee
		}
	}
	for heat := range j.Race.Heats {
		var sleds []int
		for sled := range j.Race.Sleds {
			if slices.ContainsFunc(s.grants, func(i int) bool { return s.touch[j.Protests[i].Fault][heat][sled] > 0 }) {
				sleds = append(sleds, sled)
			}
		}
		s.repeats = append(s.repeats, sleds)
	}
	return s
}

// told returns the story that the calls tell of a valid jury.
func told(t *testing.T, j api.Jury) story {
	t.Helper()
	var s story
	fine := func(e api.Errno) {
		if e != api.OK {
			t.Fatal("an error:", j, e)
		}
	}
	for fault := range j.Faults {
		var touch [][]uint8
		for heat := range j.Race.Heats {
			var known []uint8
			for sled := range j.Race.Sleds {
				k, e := jury.Touch(j, fault, heat, sled)
				fine(e)
				known = append(known, k)
			}
			touch = append(touch, known)
		}
		hit, e := jury.Hit(j, fault)
		fine(e)
		s.touch, s.hit = append(s.touch, touch), append(s.hit, hit)
	}
	for i := range j.Protests {
		late, e := jury.Late(j, i)
		fine(e)
		s.late = append(s.late, late)
	}
	var e1, e2, e3 api.Errno
	s.grants, e1 = jury.Grants(j)
	s.repeats, e2 = jury.Repeats(j)
	s.back, s.kept, e3 = jury.Money(j)
	fine(max(e1, e2, e3))
	for sled := range j.Race.Sleds {
		purse, e := jury.Purse(j, sled)
		fine(e)
		s.purses = append(s.purses, purse)
	}
	return s
}
