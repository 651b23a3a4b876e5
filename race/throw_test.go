package race_test

import (
	"slices"

	"kreisel/api"
	"kreisel/beam"
)

// A trueClock is by how much a clock truly is ahead: at the time 0, and for how many millionths of a time more.
type trueClock struct{ base, more int }

// ahead returns by how much a clock truly is ahead at a time, rounded down.
func (c trueClock) ahead(time int) int {
	n := time * c.more
	if n < 0 {
		n -= 999999
	}
	return c.base + n/1000000
}

// sync throws a sync of a clock that is true.
func (d dice) sync(c trueClock, time, wide int) api.Sync {
	n := c.ahead(time)
	return api.Sync{At: time, Ahead: span(n-d.from(0, wide), n+d.from(0, wide))}
}

// A trueRace is a race, its clocks as they truly are, and the true thousandths of each descent that has a time.
type trueRace struct {
	api.Race
	clocks []trueClock
	times  [][]int
}

// line throws a line with three beams, and clocks that are compared to the true ones.
func (d dice) line(wide int) (api.Line, []trueClock) {
	l := line()
	l.Fast, l.Finish = d.from(1500, 4000), d.from(1, 2)
	l.Fakes, l.Misses = d.from(0, 1), d.from(0, 1)
	l.Clocks = nil
	var clocks []trueClock
	for range d.from(1, 2) {
		c := api.Clock{Drift: []int{0, 20, 100}[d.IntN(3)]}
		is := trueClock{d.from(-50, 50), d.from(-c.Drift, c.Drift)}
		last := d.from(0, 100000)
		for range d.from(1, 3) {
			c.Syncs = append(c.Syncs, d.sync(is, last, wide))
			last += d.from(1, 100000)
		}
		l.Clocks, clocks = append(l.Clocks, c), append(clocks, is)
	}
	for i := range l.Beams {
		l.Beams[i].Clock = d.IntN(len(clocks))
	}
	return l, clocks
}

// ride throws a ride with its true time: signals of all beams, of which one may miss it, and one may be false.
func (d dice) ride(l api.Line, clocks []trueClock, base int) (api.Ride, int) {
	r := api.Ride{Start: d.from(100000, 400000)}
	time, ran, misses, fakes := r.Start, 0, l.Misses*d.from(0, 1), l.Fakes*d.from(0, 1)
	for i := range l.Beams {
		n, _ := beam.Least(l, i)
		time += max(n, base/(l.Finish+1)) + d.from(0, 15)
		if i == l.Finish {
			ran = time - r.Start
		}
		if misses > 0 && d.from(0, 1) == 0 {
			misses--
			continue
		}
		r.Signals = append(r.Signals, sig(i, time+clocks[l.Beams[i].Clock].ahead(time)))
		if i == l.Finish && d.from(0, 2) > 0 {
			break
		}
	}
	r.Now = time + d.from(0, 20)
	if fake := sig(d.IntN(len(l.Beams)), d.from(r.Start, r.Now)); fakes > 0 && !slices.Contains(r.Signals, fake) {
		r.Signals = append(r.Signals, fake)
	}
	slices.SortFunc(r.Signals, func(a, b api.Signal) int {
		if a.Beam != b.Beam {
			return a.Beam - b.Beam
		}
		return a.Read - b.Read
	})
	return r, ran
}

// race throws a race: with at least some heats, times from a base on, spread over so many thousandths, and so wide.
func (d dice) race(spread, wide int) trueRace {
	var r trueRace
	r.Line, r.clocks = d.line(wide / 4)
	n := d.from(1, api.MaxStarters)
	for i := range n {
		r.Sleds = append(r.Sleds, 5*i+d.from(0, 4))
	}
	r.Draw, r.Turn = d.Perm(n), d.from(0, api.MaxStarters)
	base := d.from(0, 1) * d.from(4000, 7000)
	outs, rides := []int{0, 1, 3}[d.IntN(3)], []int{0, 3, 8}[d.IntN(3)]
	for range d.from(1, api.MaxHeats) {
		var heat []api.Descent
		var times []int
		for range n {
			x, time := fixed(0, 0), 0
			switch k := d.from(1, 10); {
			case k <= outs:
				x = out()
			case base > 0 && k <= outs+rides:
				x = api.Descent{}
				x.Ride, time = d.ride(r.Line, r.clocks, base)
			default:
				x.Time = d.span(base+1, base+spread, wide)
				time = d.from(x.Time.Lo, x.Time.Hi)
			}
			heat, times = append(heat, x), append(times, time)
		}
		r.Heats, r.times = append(r.Heats, heat), append(r.times, times)
	}
	return r
}

// both throws a race with narrow times, or with wide ones.
func (d dice) both() trueRace {
	if d.from(0, 1) == 0 {
		return d.race(60, 12)
	}
	return d.race([]int{100, 3000}[d.IntN(2)], []int{40, 400}[d.IntN(2)])
}

// sums returns the true sums of all sleds that have one.
func (r trueRace) sums() map[int]int {
	all := map[int]int{}
	for sled := range r.Sleds {
		outs := 0
		for heat := range r.Heats {
			all[sled] += r.times[heat][sled] / 10
			if r.Heats[heat][sled].Out {
				outs++
			}
		}
		if outs > 0 {
			delete(all, sled)
		}
	}
	return all
}
