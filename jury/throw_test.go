package jury_test

import (
	"math"
	"slices"

	"kreisel/api"
	"kreisel/beam"
)

// A trueClock is by how much a clock truly is ahead: at the time 0, and for how many millionths of a time more.
type trueClock struct{ base, more int }

// ahead returns by how much a clock truly is ahead at a time, rounded down.
func (c trueClock) ahead(time int) int {
	n := time * c.more
	if n < 0 {
		n -= 999999
	}
	return c.base + n/1000000
}

// clock throws a clock with syncs up to a last time, and as it truly is.
func (d dice) clock(drift, last, wide int) (api.Clock, trueClock) {
	c, is := api.Clock{Drift: drift}, trueClock{d.from(-2, 2), d.from(-drift, drift)}
	for time := d.from(0, last); time <= last && len(c.Syncs) < 3; time += d.from(1, last) {
		n := is.ahead(time)
		c.Syncs = append(c.Syncs, api.Sync{At: time, Ahead: span(n-d.from(0, wide), n+d.from(0, wide))})
	}
	return c, is
}

// A size is how far beams are from each other, when sleds start, how much slower they are than they could be, and how many there are.
type size struct{ way, start, slow, wide, sleds, heats int }

// Small juries have rides of which all truths can be gone through.
func small() size { return size{3, 20, 2, 1, 3, 2} }

func great() size { return size{3000, 400000, 300, 12, api.MaxStarters, api.MaxHeats} }

// line throws a line of a size, and its clocks as they truly are.
func (d dice) line(s size) (api.Line, []trueClock) {
	l := api.Line{
		Track: api.Track{Stretches: []api.Stretch{{Id: 1, Long: span(3*s.way+2, 4*s.way+2)}}}, Fast: d.from(700, 1400),
		Fakes: d.from(0, d.from(0, 2)), Misses: d.from(0, d.from(0, 2)),
	}
	var clocks []trueClock
	for range d.from(1, 2) {
		c, is := d.clock([]int{0, 20, 1000}[d.IntN(3)], 2*s.start, s.wide)
		l.Clocks, clocks = append(l.Clocks, c), append(clocks, is)
	}
	place := 0
	for range d.from(1, 3) {
		place += d.from(max(1, s.way/3), s.way)
		l.Beams = append(l.Beams, api.Beam{Spot: spot(place, place), Clock: d.IntN(len(clocks))})
	}
	l.Finish = d.IntN(len(l.Beams))
	return l, clocks
}

// never stands for the time at which a sled passes a beam that it does not reach.
const never = math.MaxInt

// ride throws a ride that may have come to the finish, and when the sled truly passes each beam, also after all that was heard.
func (d dice) ride(s size, l api.Line, clocks []trueClock) (api.Ride, []int) {
	r := api.Ride{Start: d.from(s.start/4, s.start)}
	time, slow := r.Start, d.from(0, s.slow)
	var times []int
	for i := range l.Beams {
		least, _ := beam.Least(l, i)
		time += least + d.from(0, slow)
		times = append(times, time)
	}
	r.Now = d.from(r.Start, time+s.slow)
	if d.from(0, 2) > 0 {
		r.Now = d.from(times[l.Finish], time+s.slow)
	}
	misses, fakes := d.from(0, l.Misses), d.from(0, l.Fakes)
	for i, time := range times {
		switch {
		case time > r.Now:
		case misses > 0 && d.from(0, 1) == 0:
			misses--
		default:
			r.Signals = append(r.Signals, sig(i, time+clocks[l.Beams[i].Clock].ahead(time)))
		}
	}
	for range fakes {
		if fake := sig(d.IntN(len(l.Beams)), d.from(r.Start, r.Now)); !slices.Contains(r.Signals, fake) {
			r.Signals = append(r.Signals, fake)
		}
	}
	slices.SortFunc(r.Signals, func(a, b api.Signal) int {
		if a.Beam != b.Beam {
			return a.Beam - b.Beam
		}
		return a.Read - b.Read
	})
	if _, e := beam.Ran(l, r); e != api.OK {
		return d.ride(s, l, clocks)
	}
	for i, time := range times {
		if time > r.Now && d.from(0, 3) == 0 {
			// It stays before this beam.
			for k := i; k < len(times); k++ {
				times[k] = never
			}
			break
		}
	}
	return r, times
}

// A trueJury is a jury, its clocks as they truly are, and when each sled that rides truly passes each beam, by its heat and its number.
type trueJury struct {
	api.Jury
	clocks []trueClock
	times  map[[2]int][]int
	rides  [][2]int
}

// race throws the race of a jury.
func (d dice) race(s size) trueJury {
	j := trueJury{times: map[[2]int][]int{}}
	j.Race.Line, j.clocks = d.line(s)
	n := d.from(1, s.sleds)
	for i := range n {
		j.Race.Sleds = append(j.Race.Sleds, 5*i+d.from(0, 4))
	}
	j.Race.Draw, j.Race.Turn = d.Perm(n), d.from(0, api.MaxStarters)
	for heat := range d.from(1, s.heats) {
		var descents []api.Descent
		for sled := range n {
			var x api.Descent
			switch d.IntN(8) {
			case 0:
				x = out()
			case 1:
				x.Fixed, x.Time = true, d.span(1, 2000, 20)
			default:
				at := [2]int{heat, sled}
				x.Ride, j.times[at] = d.ride(s, j.Race.Line, j.clocks)
				j.rides = append(j.rides, at)
			}
			descents = append(descents, x)
		}
		j.Race.Heats = append(j.Race.Heats, descents)
	}
	return j
}

// rideOf returns a ride of a race.
func (j trueJury) rideOf(at [2]int) api.Ride { return j.Race.Heats[at[0]][at[1]].Ride }

// near throws a time that is one at which a sled truly was somewhere, or near to it.
func (d dice) near(s size, j trueJury) int {
	if len(j.rides) == 0 {
		return d.from(0, s.start)
	}
	at := j.rides[d.IntN(len(j.rides))]
	times := append(slices.Clone(j.times[at]), j.rideOf(at).Start, j.rideOf(at).Now)
	time := times[d.IntN(len(times))]
	if time == never {
		return d.from(j.rideOf(at).Start, 2*s.start)
	}
	return max(0, time+d.from(-s.slow, s.slow)*d.from(0, 1)+d.from(-s.wide, s.wide))
}

// fault throws a fault near to rides.
func (d dice) fault(s size, j trueJury) api.Fault {
	a, b := d.near(s, j), d.near(s, j)
	if d.from(0, 1) == 0 {
		b = a + d.from(0, 3*s.wide)
	}
	f := api.Fault{Kind: uint8(d.from(api.FaultWind, api.FaultBeam)), From: min(a, b), To: max(a, b)}
	if f.Kind != api.FaultWind {
		f.Where = d.from(0, j.Race.Line.Finish)
	}
	return f
}

// protest throws a protest of a sled that rides, about one of the faults.
func (d dice) protest(s size, j trueJury, id int) api.Protest {
	at := j.rides[d.IntN(len(j.rides))]
	ran, _ := beam.Ran(j.Race.Line, j.rideOf(at))
	time := j.rideOf(at).Start
	switch d.IntN(4) {
	case 0:
		time += d.from(0, 2*s.start)
	case 1:
		time += ran.Hi + j.Minutes*60000 + d.from(0, s.slow)
	default:
		time += d.from(ran.Lo, ran.Hi) + j.Minutes*60000 + d.from(0, 1)
	}
	return protest(id, at[1], at[0], d.IntN(len(j.Faults)), time)
}

// jury throws a jury of a size.
func (d dice) jury(s size) trueJury {
	j := d.race(s)
	j.Minutes, j.Fee = d.from(0, d.from(0, api.MaxMinutes)), d.from(0, api.MaxFee)
	for range d.from(0, api.MaxFaults) {
		j.Faults = append(j.Faults, d.fault(s, j))
	}
	if len(j.Faults) == 0 || len(j.rides) == 0 {
		return j
	}
	id := d.from(0, 3)
	for range d.from(0, api.MaxProtests) {
		j.Protests = append(j.Protests, d.protest(s, j, id))
		id += d.from(1, 5)
	}
	return j
}

// both throws a small jury or a great one.
func (d dice) both() trueJury { return d.jury([]size{small(), great()}[d.IntN(2)]) }

// touched tells whether a fault truly touches a descent.
func (j trueJury) touched(f api.Fault, heat, sled int) bool {
	at := [2]int{heat, sled}
	times, ok := j.times[at]
	if !ok {
		return false
	}
	marks := append([]int{j.rideOf(at).Start}, times...)
	in, out := marks[f.Where], marks[f.Where+1]
	switch f.Kind {
	case api.FaultWind:
		in, out = marks[0], marks[j.Race.Line.Finish+1]
	case api.FaultBeam:
		in = out
	}
	return in <= f.To && out >= f.From
}
