package turns_test

import (
	"slices"

	"kreisel/api"
	"kreisel/beam"
)

// A trueClock is by how much a clock truly is ahead: at the time 0, and for how many millionths of a time more.
type trueClock struct{ base, more int }

// ahead returns by how much a clock truly is ahead at a time, rounded down.
func (c trueClock) ahead(time int) int {
	n := time * c.more
	if n < 0 {
		n -= 999999
	}
	return c.base + n/1000000
}

// A size is how far beams are from each other, when sleds start on the day, how much slower they are than they could be, how wide syncs are, and how long lorries and sleds need at most.
type size struct{ way, start, slow, wide, seconds int }

// Small trainings have rides of which all truths can be gone through, and starts second by second.
func small() size { return size{3, 20, 2, 1, 8} }

func great() size { return size{3000, 400000, 300, 12, api.MaxSeconds} }

// A trueTraining is a training, its clocks as they truly are, and when each sled of a ride truly passed the finish, athlete by athlete.
type trueTraining struct {
	api.Training
	clocks []trueClock
	times  [][]int
}

// sync throws a sync of a clock that is true.
func (d dice) sync(is trueClock, time, wide int) api.Sync {
	n := is.ahead(time)
	return api.Sync{At: time, Ahead: span(n-d.from(0, wide), n+d.from(0, wide))}
}

// line throws a line of a size, and its clocks as they truly are.
func (d dice) line(s size) (api.Line, []trueClock) {
	l := api.Line{Fast: d.from(700, 1400), Fakes: d.from(0, d.from(0, 2)), Misses: d.from(0, d.from(0, 2))}
	for i := range d.from(1, 3) {
		least := 3*s.way + d.from(1, s.way)
		l.Track.Stretches = append(l.Track.Stretches, api.Stretch{Id: i, Long: span(least, least+d.from(0, s.way))})
	}
	var clocks []trueClock
	for range d.from(1, 2) {
		drift := []int{0, 20, 1000}[d.IntN(3)]
		c, is := api.Clock{Drift: drift}, trueClock{d.from(-2, 2), d.from(-drift, drift)}
		for time := d.from(0, 2*s.start); time <= 2*s.start && len(c.Syncs) < 3; time += d.from(1, 2*s.start) {
			c.Syncs = append(c.Syncs, d.sync(is, time, s.wide))
		}
		l.Clocks, clocks = append(l.Clocks, c), append(clocks, is)
	}
	place := 0
	for range d.from(1, 3) {
		place += d.from(max(1, s.way/3), s.way)
		l.Beams = append(l.Beams, api.Beam{Spot: spot(place, place), Clock: d.IntN(len(clocks))})
	}
	l.Finish = d.IntN(len(l.Beams))
	return l, clocks
}

// never stands for the time at which a sled passed the finish that did not until now.
const never = -1

// ride throws a ride, and when the sled truly passed the finish.
func (d dice) ride(s size, l api.Line, clocks []trueClock) (api.Ride, int) {
	r := api.Ride{Start: d.from(s.start/4, s.start)}
	time, slow := r.Start, d.from(0, s.slow)
	var times []int
	for i := range l.Beams {
		least, _ := beam.Least(l, i)
		time += least + d.from(0, slow)
		times = append(times, time)
	}
	r.Now = d.from(r.Start, time+s.slow)
	if d.from(0, 3) > 0 {
		r.Now = d.from(times[l.Finish], time+s.slow)
	}
	misses := d.from(0, l.Misses)
	for i, time := range times {
		switch {
		case time > r.Now:
		case misses > 0 && d.from(0, 1) == 0:
			misses--
		default:
			r.Signals = append(r.Signals, sig(i, time+clocks[l.Beams[i].Clock].ahead(time)))
		}
	}
	for range d.from(0, l.Fakes) {
		if fake := sig(d.IntN(len(l.Beams)), d.from(r.Start, r.Now)); !slices.Contains(r.Signals, fake) {
			r.Signals = append(r.Signals, fake)
		}
	}
	slices.SortFunc(r.Signals, func(a, b api.Signal) int {
		if a.Beam != b.Beam {
			return a.Beam - b.Beam
		}
		return a.Read - b.Read
	})
	if times[l.Finish] > r.Now {
		return r, never
	}
	return r, times[l.Finish]
}

// nations throws nations, who of them is gone, and how many runs there are.
func (d dice) nations(t *api.Training) {
	id := d.from(0, 3)
	for range d.from(1, api.MaxNations) {
		t.Nations = append(t.Nations, api.Nation{Id: id, Wish: d.from(0, api.MaxWish), Sleds: d.from(1, d.from(1, api.MaxWish))})
		id += d.from(1, 9)
	}
	often := d.from(0, 5)
	for nation := range t.Nations {
		if d.from(0, 5) < often {
			t.Gones = append(t.Gones, gone(nation, d.from(0, d.from(0, api.MaxTotal))))
		}
	}
	t.Total = max(d.from(0, api.MaxTotal), d.from(0, api.MaxTotal))
}

// lorries throws how long sleds and lorries need.
func (d dice) lorries(t *api.Training, s size) {
	t.Gap, t.Down, t.Every = d.from(1, d.from(1, s.seconds)), d.from(1, s.seconds), d.from(1, d.from(1, 2*s.seconds))
	t.Every = min(t.Every, api.MaxSeconds)
	t.Seats, t.Pace = d.from(1, d.from(1, api.MaxSeats)), d.from(0, d.from(0, api.MaxSeconds))
}

// training throws a training of a size.
func (d dice) training(s size) trueTraining {
	var t trueTraining
	t.Line, t.clocks = d.line(s)
	d.nations(&t.Training)
	d.lorries(&t.Training, s)
	id := d.from(0, 3)
	took := ints(1)
	for range d.from(0, 3) {
		a := api.Athlete{Id: id, Nation: d.IntN(len(t.Nations)), Age: d.from(14, 20)}
		var times []int
		for range d.from(0, api.MaxRides) {
			r, time := d.ride(s, t.Line, t.clocks)
			a.Rides, times = append(a.Rides, r), append(times, time)
			took = append(took, max(time, r.Now)-r.Start)
			if ran, e := beam.Ran(t.Line, r); e == api.OK {
				took = append(took, ran.Lo-1, ran.Lo, ran.Hi-1, ran.Hi, d.from(ran.Lo, ran.Hi))
			}
		}
		t.Athletes, t.times = append(t.Athletes, a), append(t.times, times)
		id += d.from(1, 9)
	}
	for i := range t.Permits {
		t.Permits[i] = permit(d.from(0, 1)*d.from(14, 20), d.from(0, 3), max(1, took[d.IntN(len(took))]))
	}
	return t
}

// both throws a small training or a great one.
func (d dice) both() trueTraining { return d.training([]size{small(), great()}[d.IntN(2)]) }
