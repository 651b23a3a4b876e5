package beam_test

import (
	"slices"

	"kreisel/api"
	"kreisel/beam"
)

// A trueClock is a clock, and by how much it truly is ahead: at the time 0, and for how many millionths of a time more.
type trueClock struct {
	api.Clock
	base, more int
}

// ahead returns by how much a clock truly is ahead at a time, rounded down.
func (c trueClock) ahead(time int) int {
	n := time * c.more
	if n < 0 {
		n -= 999999
	}
	return c.base + n/1000000
}

// sync returns a sync of a clock that is true.
func (d dice) sync(c trueClock, time, wide int) api.Sync {
	return api.Sync{At: time, Ahead: d.around(c.ahead(time), wide, -api.MaxAhead, api.MaxAhead)}
}

// clock throws a clock that is compared at some times up to a last one.
func (d dice) clock(base, drift, last, wide int) trueClock {
	c := trueClock{base: d.from(-base, base), Clock: api.Clock{Drift: drift}}
	c.more = d.from(-drift, drift)
	var times []int
	for range d.from(1, api.MaxSyncs) {
		times = append(times, d.from(0, last))
	}
	slices.Sort(times)
	for _, time := range slices.Compact(times) {
		c.Syncs = append(c.Syncs, d.sync(c, time, wide))
	}
	return c
}

// A trueLine is a line, with clocks as they truly are, and how far beams truly are behind each other.
type trueLine struct {
	api.Line
	clocks []trueClock
	ways   []int
}

// set puts clocks into a line.
func (l *trueLine) set(clocks []trueClock) {
	l.clocks, l.Clocks = clocks, nil
	for _, c := range clocks {
		l.Clocks = append(l.Clocks, c.Clock)
	}
}

// reads returns what a beam reads at a time, or false if its clock cannot read that.
func (l trueLine) reads(beam, time int) (int, bool) {
	n := time + l.clocks[l.Beams[beam].Clock].ahead(time)
	return n, n >= 0 && n <= api.MaxClock
}

// line throws a line with stretches that are at most so long, and its ways.
func (d dice) line(stretches, long, fast, beams int) trueLine {
	l := trueLine{Line: api.Line{Fast: d.from(max(1, fast/4), fast), Fakes: d.from(0, d.from(0, api.MaxFakes)), Misses: d.from(0, d.from(0, api.MaxMisses))}}
	var lengths []int
	for i := range d.from(1, stretches) {
		s := api.Stretch{Id: 3*i + d.from(0, 2), Long: d.span(long/2, long, long/2)}
		l.Track.Stretches = append(l.Track.Stretches, s)
		lengths = append(lengths, d.from(s.Long.Lo, s.Long.Hi))
	}
	var clocks []trueClock
	for range d.from(1, api.MaxClocks) {
		clocks = append(clocks, trueClock{Clock: api.Clock{Syncs: []api.Sync{{}}}})
	}
	l.set(clocks)
	place := 0
	most := max(d.from(1, beams), d.from(1, beams))
	for tries := 0; tries < 20 && len(l.Beams) < most; tries++ {
		before := api.Spot{Off: span(-1, -1)}
		if n := len(l.Beams); n > 0 {
			before = l.Beams[n-1].Spot
		}
		spot := api.Spot{Stretch: min(before.Stretch+d.from(0, 2), len(lengths)-1)}
		least, from := l.Track.Stretches[spot.Stretch].Long.Lo, 0
		if spot.Stretch == before.Stretch {
			from = min(before.Off.Hi+1, least-1)
		}
		spot.Off = d.span(from, least-1, d.from(0, 1)*long/5)
		l.Beams = append(l.Beams, api.Beam{Spot: spot, Clock: d.IntN(len(clocks))})
		// A beam that is not surely behind the one before is none.
		if beam.Check(l.Line) != api.OK {
			l.Beams = l.Beams[:len(l.Beams)-1]
			continue
		}
		true := d.from(spot.Off.Lo, spot.Off.Hi)
		for _, n := range lengths[:spot.Stretch] {
			true += n
		}
		l.ways, place = append(l.ways, true-place), true
	}
	if len(l.Beams) == 0 {
		// A run that is too short for one.
		return d.line(stretches, long, fast, beams)
	}
	l.Finish = d.IntN(len(l.Beams))
	return l
}

// small throws a line on which a sled needs some thousandths from beam to beam.
func (d dice) small() trueLine {
	l := d.line(5, d.from(2, 5), []int{700, 1000, 1000, 2500}[d.IntN(4)], 3)
	var clocks []trueClock
	for range l.clocks {
		clocks = append(clocks, d.clock(2, []int{0, 0, 400, 1000}[d.IntN(4)], 30, 1))
	}
	l.set(clocks)
	return l
}

// great throws a line as there may be one.
func (d dice) great() trueLine {
	l := d.line(api.MaxStretches, 10000, api.MaxFast, api.MaxBeams)
	var clocks []trueClock
	for range l.clocks {
		clocks = append(clocks, d.clock(3000, []int{0, 10, 100, 1000}[d.IntN(4)], 500000, []int{0, 3, 100}[d.IntN(3)]))
	}
	l.set(clocks)
	return l
}

// A trueRide is a ride, as it was told, and as it truly was: when the sled passed beams, which of them missed it, and how many signals are false.
type trueRide struct {
	api.Ride
	times  []int
	missed []int
	fakes  int
}

// ride throws a ride until a time after its start, with no more false signals and misses than may be.
func (d dice) ride(l trueLine, start, long, slow int) trueRide {
	r := trueRide{Ride: api.Ride{Start: start, Now: start + d.from(0, long)}}
	time := start
	for i := range l.Beams {
		time += (l.ways[i]*1000+l.Fast-1)/l.Fast + d.from(0, 1)*d.from(0, slow)
		if time > r.Now {
			break
		}
		r.times = append(r.times, time)
		n, ok := l.reads(i, time)
		// A clock that cannot read a time misses the sled.
		if ok && (len(r.missed) >= l.Misses || d.from(0, 2) > 0) {
			r.Signals = append(r.Signals, sig(i, n))
		} else {
			r.missed = append(r.missed, i)
		}
	}
	r.fakes = l.Fakes * d.from(0, 1)
	for range r.fakes {
		beam := d.IntN(len(l.Beams))
		n, _ := l.reads(beam, d.from(max(0, start-3), r.Now+3))
		if s := sig(beam, max(0, n)); !slices.Contains(r.Signals, s) {
			r.Signals = append(r.Signals, s)
		}
	}
	slices.SortFunc(r.Signals, func(a, b api.Signal) int {
		if a.Beam != b.Beam {
			return a.Beam - b.Beam
		}
		return a.Read - b.Read
	})
	return r
}

// smallRide and greatRide throw rides on small and great lines.
func (d dice) smallRide(l trueLine) trueRide { return d.ride(l, d.from(5, 20), 15, 2) }

func (d dice) greatRide(l trueLine) trueRide {
	return d.ride(l, d.from(5000, 400000), 60000, []int{5, 3000}[d.IntN(2)])
}
