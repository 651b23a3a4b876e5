package turns_test

import (
	"fmt"
	"math/rand/v2"
	"slices"
	"testing"

	"kreisel/api"
	"kreisel/beam"
	"kreisel/turns"
)

func span(lo, hi int) api.Span { return api.Span{Lo: lo, Hi: hi} }

func ints(l ...int) []int { return l }

func spot(lo, hi int) api.Spot { return api.Spot{Off: span(lo, hi)} }

func sig(beam, read int) api.Signal { return api.Signal{Beam: beam, Read: read} }

func gone(nation, after int) api.Gone { return api.Gone{Nation: nation, After: after} }

func permit(age, runs, time int) api.Permit { return api.Permit{Age: age, Runs: runs, Time: time} }

func ride(start, now int, l ...api.Signal) api.Ride {
	return api.Ride{Start: start, Now: now, Signals: l}
}

// down returns the ride of layer 5's examples: it came to the finish in 2,596 to 2,602.
func down() api.Ride { return ride(10000, 20000, sig(0, 10600), sig(0, 11000), sig(1, 12600)) }

// line returns the line of layer 5's examples.
func line() api.Line {
	return api.Line{
		Track: api.Track{Stretches: []api.Stretch{{Id: 4, Long: span(10000, 10200)}}}, Fast: 2000,
		Clocks: []api.Clock{{Drift: 100, Syncs: []api.Sync{{Ahead: span(0, 2)}, {At: 100000, Ahead: span(5, 6)}}}},
		Beams:  []api.Beam{{Spot: spot(1000, 1000)}, {Spot: spot(4000, 4000)}, {Spot: spot(9000, 9000)}},
		Finish: 1, Fakes: 1, Misses: 1,
	}
}

// camp returns the training of the chapter's examples, changed.
func camp(change ...func(t *api.Training)) api.Training {
	t := api.Training{
		Line:    line(),
		Nations: []api.Nation{{Id: 2, Wish: 3, Sleds: 1}, {Id: 5, Wish: 2, Sleds: 2}, {Id: 7, Wish: 4, Sleds: 1}},
		Total:   8, Gap: 60, Down: 90, Every: 120, Seats: 2, Pace: 20,
		Athletes: []api.Athlete{{Id: 3, Age: 18, Rides: []api.Ride{down(), down()}}},
		Permits:  [api.Classes]api.Permit{permit(16, 2, 2600), permit(16, 2, 2602), permit(19, 0, 1)},
	}
	for _, c := range change {
		c(&t)
	}
	return t
}

// of returns a training of nations that wish some runs, with a sled each.
func of(wishes ...int) api.Training {
	t := camp(func(t *api.Training) { t.Nations, t.Athletes, t.Total = nil, nil, api.MaxTotal })
	for i, n := range wishes {
		t.Nations = append(t.Nations, api.Nation{Id: 4 * i, Wish: n, Sleds: 1})
	}
	return t
}

// dice throw numbers that are the same in each run of the tests.
type dice struct{ *rand.Rand }

func newDice(seed uint64) dice { return dice{rand.New(rand.NewPCG(seed, 8))} }

func (d dice) from(lo, hi int) int { return lo + d.IntN(hi-lo+1) }

// has returns how many of some runs a nation took.
func has(runs []int, nation int) int {
	n := 0
	for _, r := range runs {
		if r == nation {
			n++
		}
	}
	return n
}

// isGone tells whether a nation is gone after some runs, word for word.
func isGone(t api.Training, nation, runs int) bool {
	for _, g := range t.Gones {
		if g.Nation == nation {
			return runs >= g.After
		}
	}
	return false
}

// turnsOf returns the nations of all runs, word for word.
func turnsOf(t api.Training) []int {
	var runs []int
	for round := 0; len(runs) < t.Total; round++ {
		var order []int
		first := round % len(t.Nations)
		for i := first; i < len(t.Nations); i++ {
			order = append(order, i)
		}
		for i := range first {
			order = append(order, i)
		}
		before := len(runs)
		for _, nation := range order {
			if has(runs, nation) < t.Nations[nation].Wish && !isGone(t, nation, len(runs)) && len(runs) < t.Total {
				runs = append(runs, nation)
			}
		}
		if len(runs) == before {
			break
		}
	}
	return runs
}

// upOf returns how long a lorry needs up, word for word.
func upOf(t api.Training) api.Span {
	var long api.Span
	for _, s := range t.Line.Track.Stretches {
		long = span(long.Lo+s.Long.Lo, long.Hi+s.Long.Hi)
	}
	up := func(long int) int {
		n := t.Pace * long / 1000
		if n*1000 < t.Pace*long {
			n++
		}
		return n
	}
	return span(up(long.Lo), up(long.Hi))
}

// startsBySeconds returns when all runs start, second by second.
func startsBySeconds(t api.Training) []int {
	var starts, queue, ready []int
	for _, n := range t.Nations {
		ready = append(ready, n.Sleds)
	}
	// Nations whose sleds come to the finish, and are up again.
	comes, rises := map[int][]int{}, map[int][]int{}
	runs, up := turnsOf(t), upOf(t).Hi
	for now := 0; len(starts) < len(runs); now++ {
		queue = append(queue, comes[now]...)
		if now > 0 && now%t.Every == 0 {
			n := min(t.Seats, len(queue))
			rises[now+up] = append(rises[now+up], queue[:n]...)
			queue = queue[n:]
		}
		for _, nation := range rises[now] {
			ready[nation]++
		}
		nation := runs[len(starts)]
		if ready[nation] == 0 || len(starts) > 0 && now < starts[len(starts)-1]+t.Gap {
			continue
		}
		ready[nation]--
		comes[now+t.Down] = append(comes[now+t.Down], nation)
		starts = append(starts, now)
	}
	return starts
}

// startsByLorries returns when all runs start, and with which lorry the sled of each run leaves the finish, by going through the lorries of earlier runs.
func startsByLorries(t api.Training) (starts, leaves []int) {
	runs, up := turnsOf(t), upOf(t).Hi
	for run, nation := range runs {
		// It starts after the gap, or as soon as a sled is up.
		first, at := 0, []int{0}
		if run > 0 {
			first = starts[run-1] + t.Gap
			at[0] = first
		}
		for _, x := range leaves {
			at = append(at, x+up)
		}
		slices.Sort(at)
		i := slices.IndexFunc(at, func(time int) bool {
			ready := t.Nations[nation].Sleds
			for i, x := range leaves {
				if runs[i] == nation && x+up > time {
					ready--
				}
			}
			return time >= first && ready > 0
		})
		starts = append(starts, at[i])
		lorry := t.Every
		for lorry < at[i]+t.Down {
			lorry += max(t.Every, (at[i]+t.Down-lorry)/t.Every*t.Every)
		}
		for has(leaves, lorry) == t.Seats {
			lorry += t.Every
		}
		leaves = append(leaves, lorry)
	}
	return starts, leaves
}

// truths goes through the times at which a sled passed beams, in all truths of a ride, word for word.
func truths(l api.Line, r api.Ride, each func(times []int)) {
	var pass func(times []int, right, missed int)
	pass = func(times []int, right, missed int) {
		if len(r.Signals)-right <= l.Fakes && missed <= l.Misses {
			each(times)
		}
		passed, from := len(times), r.Start
		if passed == len(l.Beams) {
			return
		}
		if passed > 0 {
			from = times[passed-1]
		}
		least, _ := beam.Least(l, passed)
		for time := from + least; time <= r.Now; time++ {
			more := append(slices.Clip(times), time)
			pass(more, right, missed+1)
			for _, s := range r.Signals {
				if w, e := beam.When(l, s); s.Beam == passed && e == api.OK && time >= w.Lo && time <= w.Hi {
					pass(more, right+1, missed)
				}
			}
		}
	}
	pass(nil, 0, 0)
}

// A teller tells whether a ride surely came to the finish in a time, and whether it may have.
type teller func(l api.Line, r api.Ride, time int) (sure, may bool)

// byTruths tells it from all truths of a ride.
func byTruths(l api.Line, r api.Ride, time int) (sure, may bool) {
	sure = true
	truths(l, r, func(times []int) {
		well := len(times) > l.Finish && times[l.Finish]-r.Start <= time
		sure, may = sure && well, may || well
	})
	return sure, may
}

// byBeams tells it as layer 5 does.
func byBeams(l api.Line, r api.Ride, time int) (sure, may bool) {
	where, _ := beam.Where(l, r)
	passed, e := beam.Passed(l, r, l.Finish)
	return e == api.OK && where[0] > l.Finish && passed.Hi-r.Start <= time, e == api.OK && passed.Lo-r.Start <= time
}

// A story is all that is told of a training.
type story struct {
	turns         []int
	shares        [][]int // of no run, of the first one, and so on
	up            api.Span
	starts, waits []int
	well          [][api.Classes][2]int
	licences      [][api.Classes]uint8
	teams         [][api.Classes][]int
}

// equal compares stories; nil is written as an empty list.
func equal(a, b story) bool { return fmt.Sprint(a) == fmt.Sprint(b) }

// storyOf returns the story of a valid training, word for word.
func storyOf(t api.Training, by teller) story {
	s := story{turns: turnsOf(t), up: upOf(t)}
	for runs := range len(s.turns) + 1 {
		var share []int
		for nation := range t.Nations {
			share = append(share, has(s.turns[:runs], nation))
		}
		s.shares = append(s.shares, share)
	}
	s.starts, _ = startsByLorries(t)
	for i := 1; i < len(s.starts); i++ {
		if s.starts[i] > s.starts[i-1]+t.Gap {
			s.waits = append(s.waits, i)
		}
	}
	s.teams = make([][api.Classes][]int, len(t.Nations))
	for athlete, a := range t.Athletes {
		var well [api.Classes][2]int
		var licences [api.Classes]uint8
		for i, p := range t.Permits {
			for _, r := range a.Rides {
				sure, may := by(t.Line, r, p.Time)
				if sure {
					well[i][0]++
				}
				if may {
					well[i][1]++
				}
			}
			switch {
			case a.Age < p.Age || well[i][1] < p.Runs:
			case well[i][0] < p.Runs:
				licences[i] = api.KnownOpen
			default:
				licences[i] = api.KnownYes
				s.teams[a.Nation][i] = append(s.teams[a.Nation][i], athlete)
			}
		}
		s.well, s.licences = append(s.well, well), append(s.licences, licences)
	}
	return s
}

// licences returns what the calls tell of the rides and the licences of all athletes, class by class.
func licences(t *testing.T, x api.Training) (well [][api.Classes][2]int, known [][api.Classes]uint8) {
	t.Helper()
	for athlete := range x.Athletes {
		var rides [api.Classes][2]int
		var all [api.Classes]uint8
		for i := range x.Permits {
			sure, may, e := turns.Well(x, athlete, i+1)
			k, f := turns.Licence(x, athlete, i+1)
			if e != api.OK || f != api.OK {
				t.Fatal("an error:", x, e, f)
			}
			rides[i], all[i] = [2]int{sure, may}, k
		}
		well, known = append(well, rides), append(known, all)
	}
	return well, known
}

// told returns the story that the calls tell of a valid training.
func told(t *testing.T, x api.Training) story {
	t.Helper()
	var s story
	fine := func(list ...api.Errno) {
		t.Helper()
		if max(slices.Max(list), turns.Check(x)) != api.OK {
			t.Fatal("an error:", x, list)
		}
	}
	var e1, e2, e3, e4 api.Errno
	s.well, s.licences = licences(t, x)
	s.turns, e1 = turns.Turns(x)
	s.up, e2 = turns.Up(x)
	s.starts, e3 = turns.Starts(x)
	s.waits, e4 = turns.Waits(x)
	fine(e1, e2, e3, e4)
	for runs := range len(s.turns) + 1 {
		share, e := turns.Share(x, runs)
		fine(e)
		s.shares = append(s.shares, share)
	}
	for nation := range x.Nations {
		var teams [api.Classes][]int
		for i := range x.Permits {
			teams[i], e1 = turns.Team(x, nation, i+1)
			fine(e1)
		}
		s.teams = append(s.teams, teams)
	}
	return s
}

// leave returns the training in which a nation is gone after some runs.
func leave(t *testing.T, x api.Training, nation, after int) api.Training {
	t.Helper()
	y, e := turns.Leave(x, nation, after)
	if e != api.OK {
		t.Fatal("an error:", x, nation, after, e)
	}
	return y
}
