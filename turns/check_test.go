package turns_test

import (
	"fmt"
	"math"
	"slices"
	"testing"

	"kreisel/api"
	"kreisel/turns"
)

// far are numbers that no field allows.
var far = []int{math.MinInt, math.MinInt + 1, math.MinInt32, math.MaxInt32 + 1, math.MaxInt - 1, math.MaxInt}

// An asked is all that a call may be asked about.
type asked struct {
	t                                   api.Training
	runs, nation, after, athlete, class int
}

// ask returns what the chapter's examples ask about, with somebody who is gone, and another athlete.
func ask() asked {
	return asked{camp(func(t *api.Training) {
		t.Gones = []api.Gone{gone(1, 3)}
		t.Athletes = append(t.Athletes, api.Athlete{Id: 8, Nation: 2, Age: 30, Rides: []api.Ride{down()}})
	}), 4, 0, 3, 0, 1}
}

// A result is what a call returned, as a text, and that of a zero value.
type result struct {
	name       string
	text, zero string
	e          api.Errno
}

// gave returns the result of a call; nil and an empty list have the same text.
func gave[T any](name string, value T, e api.Errno) result {
	var zero T
	return result{name, fmt.Sprint(value), fmt.Sprint(zero), e}
}

// calls calls all functions.
func calls(x asked) []result {
	list, e1 := turns.Turns(x.t)
	share, e2 := turns.Share(x.t, x.runs)
	left, e3 := turns.Leave(x.t, x.nation, x.after)
	up, e4 := turns.Up(x.t)
	starts, e5 := turns.Starts(x.t)
	waits, e6 := turns.Waits(x.t)
	sure, may, e7 := turns.Well(x.t, x.athlete, x.class)
	licence, e8 := turns.Licence(x.t, x.athlete, x.class)
	team, e9 := turns.Team(x.t, x.nation, x.class)
	return []result{
		gave("Check", 0, turns.Check(x.t)), gave("Turns", list, e1), gave("Share", share, e2), gave("Leave", left, e3), gave("Up", up, e4), gave("Starts", starts, e5),
		gave("Waits", waits, e6), gave("Well", [2]int{sure, may}, e7), gave("Licence", licence, e8), gave("Team", team, e9),
	}
}

// all are the functions that tell of a training that is not valid.
func all() []string {
	return []string{"Check", "Turns", "Share", "Leave", "Up", "Starts", "Waits", "Well", "Licence", "Team"}
}

// checked reports each call that does not return an error of a training, if there has to be one, each one that returns one, if there is none, and each error with something else.
func checked(t *testing.T, about any, x asked, want api.Errno) {
	t.Helper()
	for _, r := range calls(x) {
		if want != api.OK && r.e != want || want == api.OK && slices.Contains([]api.Errno{api.ErrTrack, api.ErrLine, api.ErrTraining}, r.e) || r.e != api.OK && r.text != r.zero {
			t.Error(about, r, want)
		}
	}
}

// A number is one that is asked about, from where to where it may be, and by which functions.
type number struct {
	name   string
	of     func(x *asked) *int
	lo, hi int
	e      api.Errno
	by     []string
}

func numbers() []number {
	list := []number{
		{"Total", func(x *asked) *int { return &x.t.Total }, 0, api.MaxTotal, api.ErrTraining, all()},
		{"Gap", func(x *asked) *int { return &x.t.Gap }, 1, api.MaxSeconds, api.ErrTraining, all()},
		{"Down", func(x *asked) *int { return &x.t.Down }, 1, api.MaxSeconds, api.ErrTraining, all()},
		{"Every", func(x *asked) *int { return &x.t.Every }, 1, api.MaxSeconds, api.ErrTraining, all()},
		{"Seats", func(x *asked) *int { return &x.t.Seats }, 1, api.MaxSeats, api.ErrTraining, all()},
		{"Pace", func(x *asked) *int { return &x.t.Pace }, 0, api.MaxSeconds, api.ErrTraining, all()},
		{"the first Id", func(x *asked) *int { return &x.t.Nations[0].Id }, 0, 4, api.ErrTraining, all()},
		{"the second Id", func(x *asked) *int { return &x.t.Nations[1].Id }, 3, 6, api.ErrTraining, all()},
		{"the last Id", func(x *asked) *int { return &x.t.Nations[2].Id }, 6, api.MaxId, api.ErrTraining, all()},
		{"the nation that is gone", func(x *asked) *int { return &x.t.Gones[0].Nation }, 0, 2, api.ErrTraining, []string{"Check", "Turns", "Share", "Up", "Starts", "Waits", "Well", "Licence", "Team"}},
		{"After", func(x *asked) *int { return &x.t.Gones[0].After }, 0, api.MaxTotal, api.ErrTraining, all()},
		{"the first athlete's Id", func(x *asked) *int { return &x.t.Athletes[0].Id }, 0, 7, api.ErrTraining, all()},
		{"the last athlete's Id", func(x *asked) *int { return &x.t.Athletes[1].Id }, 4, api.MaxId, api.ErrTraining, all()},
		{"a ride's Start", func(x *asked) *int { return &x.t.Athletes[1].Rides[0].Start }, 0, 10502, api.ErrTraining, all()},
		{"a ride's Now", func(x *asked) *int { return &x.t.Athletes[1].Rides[0].Now }, 12596, api.MaxClock, api.ErrTraining, all()},
		{"runs", func(x *asked) *int { return &x.runs }, 0, 8, api.ErrArg, []string{"Share"}},
		{"nation", func(x *asked) *int { return &x.nation }, 0, 2, api.ErrArg, []string{"Team"}},
		{"after", func(x *asked) *int { return &x.after }, 0, api.MaxTotal, api.ErrArg, []string{"Leave"}},
		{"athlete", func(x *asked) *int { return &x.athlete }, 0, 1, api.ErrArg, []string{"Well", "Licence"}},
		{"class", func(x *asked) *int { return &x.class }, 1, api.Classes, api.ErrArg, []string{"Well", "Licence", "Team"}},
	}
	for i := range 3 {
		list = append(list,
			number{fmt.Sprint("Wish of ", i), func(x *asked) *int { return &x.t.Nations[i].Wish }, 0, api.MaxWish, api.ErrTraining, all()},
			number{fmt.Sprint("Sleds of ", i), func(x *asked) *int { return &x.t.Nations[i].Sleds }, 1, api.MaxWish, api.ErrTraining, all()},
			number{fmt.Sprint("Age of the permit ", i), func(x *asked) *int { return &x.t.Permits[i].Age }, 0, api.MaxAge, api.ErrTraining, all()},
			number{fmt.Sprint("Runs of the permit ", i), func(x *asked) *int { return &x.t.Permits[i].Runs }, 0, api.MaxWish, api.ErrTraining, all()},
			number{fmt.Sprint("Time of the permit ", i), func(x *asked) *int { return &x.t.Permits[i].Time }, 1, api.MaxClock, api.ErrTraining, all()},
		)
	}
	for i := range 2 {
		list = append(list,
			number{fmt.Sprint("nation of the athlete ", i), func(x *asked) *int { return &x.t.Athletes[i].Nation }, 0, 2, api.ErrTraining, all()},
			number{fmt.Sprint("age of the athlete ", i), func(x *asked) *int { return &x.t.Athletes[i].Age }, 0, api.MaxAge, api.ErrTraining, all()},
		)
	}
	return list
}

// P8.1 to P8.4, R5: each number has its ends, and however far it is beyond them is the same error.
func TestNumbersHaveEnds(t *testing.T) {
	// told asks with one number changed.
	told := func(f number, n int, want api.Errno) {
		x := ask()
		// There may be fewer runs.
		x.runs = 0
		*f.of(&x) = n
		for _, r := range calls(x) {
			if slices.Contains(f.by, r.name) && (r.e != want || want != api.OK && r.text != r.zero) {
				t.Error(f.name, n, r, want)
			}
		}
	}
	for _, f := range numbers() {
		for _, n := range []int{f.lo, (f.lo + f.hi) / 2, f.hi} {
			told(f, n, api.OK)
		}
		for _, n := range append([]int{f.lo - 1, f.hi + 1}, far...) {
			told(f, n, f.e)
		}
	}
}

// P8.1: no list is longer than its limit, and some nation takes part.
func TestListsHaveLimits(t *testing.T) {
	for nations := range api.MaxNations + 4 {
		for athletes := range api.MaxAthletes + 4 {
			for rides := range api.MaxRides + 4 {
				x, want := ask(), api.OK
				x.t.Nations, x.t.Gones, x.t.Athletes = nil, nil, nil
				for i := range nations {
					x.t.Nations = append(x.t.Nations, api.Nation{Id: i, Wish: 1, Sleds: 1})
					x.t.Gones = append(x.t.Gones, gone(i, 4))
				}
				for i := range athletes {
					x.t.Athletes = append(x.t.Athletes, api.Athlete{Id: i, Rides: slices.Repeat([]api.Ride{down()}, rides)})
				}
				if nations < 1 || nations > api.MaxNations || athletes > api.MaxAthletes || athletes > 0 && rides > api.MaxRides {
					want = api.ErrTraining
				}
				checked(t, []int{nations, athletes, rides}, x, want)
			}
		}
	}
}

// P8.1: nations and athletes are by Id, who is gone by nations, and no two are the same.
func TestListsAreInOrder(t *testing.T) {
	for n := range 5 * 5 * 5 {
		numbers := ints(n%5-1, n/5%5-1, n/25-1)
		inOrder := numbers[0] >= 0 && numbers[0] < numbers[1] && numbers[1] < numbers[2]
		for i, set := range []func(x *asked){
			func(x *asked) {
				for i, n := range numbers {
					x.t.Nations[i].Id = n
				}
			},
			func(x *asked) {
				x.t.Athletes = nil
				for _, n := range numbers {
					x.t.Athletes = append(x.t.Athletes, api.Athlete{Id: n})
				}
			},
			func(x *asked) {
				x.t.Gones = nil
				for _, n := range numbers {
					x.t.Gones = append(x.t.Gones, gone(n, 5))
				}
			},
		} {
			x, want := ask(), api.ErrTraining
			set(&x)
			if inOrder && (i < 2 || numbers[2] < 3) {
				want = api.OK
			}
			checked(t, numbers, x, want)
		}
	}
}

// P8.1: one that is wrong is found wherever it stands.
func TestOneOfSeveralIsWrong(t *testing.T) {
	for i := range 3 {
		for k, change := range []func(x *asked){
			func(x *asked) { x.t.Nations[i].Wish = -1 }, func(x *asked) { x.t.Nations[i].Wish = 11 }, func(x *asked) { x.t.Nations[i].Sleds = 0 }, func(x *asked) { x.t.Nations[i].Sleds = 11 }, func(x *asked) { x.t.Nations[i].Id = -1 }, func(x *asked) { x.t.Nations[i].Id = 10000 },
			func(x *asked) { x.t.Gones[i].After = -1 }, func(x *asked) { x.t.Gones[i].After = 41 }, func(x *asked) { x.t.Gones[i].Nation = 3 }, func(x *asked) { x.t.Gones[i].Nation = -1 },
			func(x *asked) { x.t.Athletes[i].Id = -1 }, func(x *asked) { x.t.Athletes[i].Id = 10000 }, func(x *asked) { x.t.Athletes[i].Nation = 3 }, func(x *asked) { x.t.Athletes[i].Nation = -1 }, func(x *asked) { x.t.Athletes[i].Age = 100 }, func(x *asked) { x.t.Athletes[i].Age = -1 },
			func(x *asked) { x.t.Athletes[2].Rides[i].Now = 0 }, func(x *asked) { x.t.Athletes[2].Rides[i].Start = -1 }, func(x *asked) { x.t.Athletes[2].Rides[i].Signals[2].Beam = 3 }, func(x *asked) { x.t.Athletes[2].Rides[i].Signals[1].Read = 10600 },
			func(x *asked) { x.t.Permits[i].Age = 100 }, func(x *asked) { x.t.Permits[i].Runs = -1 }, func(x *asked) { x.t.Permits[i].Time = 0 },
		} {
			x := ask()
			x.t.Gones = []api.Gone{gone(0, 1), gone(1, 2), gone(2, 3)}
			x.t.Athletes = append(x.t.Athletes, api.Athlete{Id: 9, Rides: []api.Ride{down(), down(), down()}})
			checked(t, []int{i, k}, x, api.OK)
			change(&x)
			checked(t, []int{i, k}, x, api.ErrTraining)
		}
	}
}

// P8.1: a ride has to be one of the line, and to have a truth.
func TestRidesAreHeard(t *testing.T) {
	for i, x := range []struct {
		r    api.Ride
		e, f api.Errno // with a false signal, and without
	}{
		{down(), api.OK, api.ErrTraining}, {api.Ride{}, api.OK, api.OK}, {ride(10000, 20000, sig(1, 12600)), api.OK, api.OK}, {ride(10000, 10000), api.OK, api.OK}, {ride(api.MaxClock, api.MaxClock), api.OK, api.OK},
		{ride(10000, 20000, sig(0, 10300)), api.OK, api.ErrTraining}, {ride(10000, 20000, sig(0, 10300), sig(0, 10301)), api.ErrTraining, api.ErrTraining}, {ride(10000, 9999), api.ErrTraining, api.ErrTraining}, {ride(10000, api.MaxClock+1), api.ErrTraining, api.ErrTraining},
		{ride(10000, 20000, sig(1, 12600), sig(0, 10600)), api.ErrTraining, api.ErrTraining},
	} {
		for fakes, want := range []api.Errno{x.f, x.e} {
			y := ask()
			y.t.Line.Fakes, y.t.Athletes = fakes, []api.Athlete{{Rides: []api.Ride{x.r}}}
			if e := turns.Check(y.t); e != want {
				t.Error(i, fakes, e)
			}
			checked(t, i, y, want)
		}
	}
}

// P8.1, R1: all errors of a line come before those of the training.
func TestErrorsOfLines(t *testing.T) {
	for i, x := range []struct {
		change func(l *api.Line)
		e      api.Errno
	}{
		{func(l *api.Line) { l.Track.Stretches = nil }, api.ErrTrack}, {func(l *api.Line) { l.Track.Stretches[0].Wall, l.Fast = -1, 0 }, api.ErrTrack},
		{func(l *api.Line) { l.Fast = 0 }, api.ErrLine}, {func(l *api.Line) { l.Clocks[0].Syncs[1].Ahead = span(60, 60) }, api.ErrLine}, {func(l *api.Line) { l.Beams = nil }, api.ErrLine}, {func(l *api.Line) { l.Finish = 3 }, api.ErrLine}, {func(l *api.Line) { l.Fakes = 4 }, api.ErrLine},
	} {
		for _, gap := range ints(0, 60) {
			y := ask()
			x.change(&y.t.Line)
			y.t.Gap = gap
			checked(t, i, y, x.e)
		}
	}
}

// R1, R2: errors are told in the order of the descriptions, and nothing with them.
func TestErrorsInOrder(t *testing.T) {
	kinds := []struct {
		make func(x *asked)
		e    api.Errno
		told []string
	}{
		{func(x *asked) { x.t.Line.Track.Stretches[0].Long.Lo = 0 }, api.ErrTrack, all()},
		{func(x *asked) { x.t.Line.Fast = 0 }, api.ErrLine, all()},
		{func(x *asked) { x.t.Seats = 7 }, api.ErrTraining, all()},
		{func(x *asked) { x.runs = 9 }, api.ErrArg, []string{"Share"}},
		{func(x *asked) { x.nation = 3 }, api.ErrArg, []string{"Leave", "Team"}},
		{func(x *asked) { x.after = -1 }, api.ErrArg, []string{"Leave"}},
		{func(x *asked) { x.athlete = 2 }, api.ErrArg, []string{"Well", "Licence"}},
		{func(x *asked) { x.class = 0 }, api.ErrArg, []string{"Well", "Licence", "Team"}},
		{func(x *asked) { x.t.Gones[0].Nation = 0 }, api.ErrBad, []string{"Leave"}},
	}
	for set := range 1 << len(kinds) {
		x, want := ask(), map[string]api.Errno{}
		// What comes first is made last, so that nothing else undoes it.
		for i := len(kinds) - 1; i >= 0; i-- {
			if set>>i&1 == 0 {
				continue
			}
			kinds[i].make(&x)
			for _, name := range kinds[i].told {
				want[name] = kinds[i].e
			}
		}
		for _, r := range calls(x) {
			if r.e != want[r.name] || r.e != api.OK && r.text != r.zero {
				t.Error(set, r, want[r.name])
			}
		}
	}
}
