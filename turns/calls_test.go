package turns_test

import (
	"fmt"
	"slices"
	"testing"

	"kreisel/api"
	"kreisel/turns"
)

// P8.1 to P8.3: the chapter's examples of turns.
func TestExamplesOfTurns(t *testing.T) {
	if l, e := turns.Turns(camp()); !slices.Equal(l, ints(0, 1, 2, 1, 2, 0, 2, 0)) || e != api.OK {
		t.Error(l, e)
	}
	if l, e := turns.Share(camp(), 4); !slices.Equal(l, ints(1, 2, 1)) || e != api.OK {
		t.Error(l, e)
	}
	if s, e := turns.Up(camp()); s != span(200, 204) || e != api.OK {
		t.Error(s, e)
	}
	if l, e := turns.Starts(camp()); !slices.Equal(l, ints(0, 60, 120, 180, 444, 504, 804, 864)) || e != api.OK {
		t.Error(l, e)
	}
	if l, e := turns.Waits(camp()); !slices.Equal(l, ints(4, 6)) || e != api.OK {
		t.Error(l, e)
	}
	if l, e := turns.Turns(leave(t, camp(), 1, 3)); !slices.Equal(l, ints(0, 1, 2, 2, 0, 2, 0, 2)) || e != api.OK {
		t.Error(l, e)
	}
}

// P8.4: the chapter's examples of licences.
func TestExamplesOfLicences(t *testing.T) {
	for i, x := range []struct {
		sure, may int
		licence   uint8
	}{{0, 2, api.KnownOpen}, {2, 2, api.KnownYes}, {0, 0, api.KnownNo}} {
		if sure, may, e := turns.Well(camp(), 0, i+1); sure != x.sure || may != x.may || e != api.OK {
			t.Error(i, sure, may, e)
		}
		if k, e := turns.Licence(camp(), 0, i+1); k != x.licence || e != api.OK {
			t.Error(i, k, e)
		}
	}
	if l, e := turns.Team(camp(), 0, 2); !slices.Equal(l, ints(0)) || e != api.OK {
		t.Error(l, e)
	}
}

// P8.1: who begins a round, who is passed over, and how a training ends.
func TestTurnsByRounds(t *testing.T) {
	for i, x := range []struct {
		t    api.Training
		want []int
	}{
		{of(4), ints(0, 0, 0, 0)},
		{of(0), nil},
		{of(0, 0, 0), nil},
		{of(3, 3), ints(0, 1, 1, 0, 0, 1)},
		{of(3, 3, 3), ints(0, 1, 2, 1, 2, 0, 2, 0, 1)},
		{of(2, 2, 2, 2, 2, 2), ints(0, 1, 2, 3, 4, 5, 1, 2, 3, 4, 5, 0)},
		// Who is passed over in a round that it would begin.
		{of(2, 1, 2), ints(0, 1, 2, 2, 0)},
		{of(4, 0, 1), ints(0, 2, 0, 0, 0)},
		{of(0, 3), ints(1, 1, 1)},
		{of(1, 10), ints(0, 1, 1, 1, 1, 1, 1, 1, 1, 1, 1)},
	} {
		if l, e := turns.Turns(x.t); !slices.Equal(l, x.want) || e != api.OK {
			t.Error(i, l, e)
		}
		// As soon as all runs were taken that there are, also in the middle of a round.
		for total := range len(x.want) + 3 {
			x.t.Total = total
			want := x.want[:min(total, len(x.want))]
			if l, e := turns.Turns(x.t); !slices.Equal(l, want) || e != api.OK {
				t.Error(i, total, l, e)
			}
		}
	}
}

// P8.1: who is gone has no run as soon as enough runs were taken by all nations.
func TestTurnsOfWhoIsGone(t *testing.T) {
	for i, x := range []struct {
		gones []api.Gone
		want  []int
	}{
		{nil, ints(0, 1, 2, 1, 2, 0, 2, 0, 1)},
		{[]api.Gone{gone(0, 0)}, ints(1, 2, 1, 2, 2, 1)},
		{[]api.Gone{gone(1, 0)}, ints(0, 2, 2, 0, 2, 0)},
		{[]api.Gone{gone(1, 1)}, ints(0, 2, 2, 0, 2, 0)},
		{[]api.Gone{gone(1, 2)}, ints(0, 1, 2, 2, 0, 2, 0)},
		{[]api.Gone{gone(1, 3)}, ints(0, 1, 2, 2, 0, 2, 0)},
		{[]api.Gone{gone(1, 4)}, ints(0, 1, 2, 1, 2, 0, 2, 0)},
		{[]api.Gone{gone(0, 5)}, ints(0, 1, 2, 1, 2, 2, 1)},
		{[]api.Gone{gone(0, 6)}, ints(0, 1, 2, 1, 2, 0, 2, 1)},
		{[]api.Gone{gone(1, 8)}, ints(0, 1, 2, 1, 2, 0, 2, 0)},
		{[]api.Gone{gone(1, 9)}, ints(0, 1, 2, 1, 2, 0, 2, 0, 1)},
		{[]api.Gone{gone(1, api.MaxTotal)}, ints(0, 1, 2, 1, 2, 0, 2, 0, 1)},
		{[]api.Gone{gone(0, 2), gone(2, 2)}, ints(0, 1, 1, 1)},
		{[]api.Gone{gone(0, 3), gone(1, 4), gone(2, 5)}, ints(0, 1, 2, 1, 2)},
		{[]api.Gone{gone(0, 0), gone(1, 0), gone(2, 0)}, nil},
	} {
		y := of(3, 3, 3)
		y.Gones = x.gones
		if l, e := turns.Turns(y); !slices.Equal(l, x.want) || e != api.OK {
			t.Error(i, l, e)
		}
	}
}

// P8.1: shares of no run, and of all.
func TestShares(t *testing.T) {
	for runs, want := range [][]int{{0, 0, 0}, {1, 0, 0}, {1, 1, 0}, {1, 1, 1}, {1, 2, 1}, {1, 2, 2}, {2, 2, 2}, {2, 2, 3}, {3, 2, 3}} {
		if l, e := turns.Share(camp(), runs); !slices.Equal(l, want) || e != api.OK {
			t.Error(runs, l, e)
		}
	}
	if l, e := turns.Share(of(0, 0), 0); !slices.Equal(l, ints(0, 0)) || e != api.OK {
		t.Error(l, e)
	}
}

// P8.2: who leaves is told by nations, and nothing else is changed.
func TestLeave(t *testing.T) {
	for i, x := range []struct {
		gones         []api.Gone
		nation, after int
		want          []api.Gone
	}{
		{nil, 0, 0, []api.Gone{gone(0, 0)}},
		{nil, 2, api.MaxTotal, []api.Gone{gone(2, api.MaxTotal)}},
		{[]api.Gone{gone(1, 7)}, 0, 9, []api.Gone{gone(0, 9), gone(1, 7)}},
		{[]api.Gone{gone(1, 7)}, 2, 3, []api.Gone{gone(1, 7), gone(2, 3)}},
		{[]api.Gone{gone(0, 7), gone(2, 0)}, 1, 7, []api.Gone{gone(0, 7), gone(1, 7), gone(2, 0)}},
	} {
		y := camp(func(t *api.Training) { t.Gones = x.gones })
		want := camp(func(t *api.Training) { t.Gones = x.want })
		if l := leave(t, y, x.nation, x.after); fmt.Sprint(l) != fmt.Sprint(want) {
			t.Error(i, l)
		}
		// Who is gone cannot leave again, and what is no nation, or too late, is told before.
		for nation := range 3 {
			bad := slices.ContainsFunc(x.gones, func(g api.Gone) bool { return g.Nation == nation })
			if _, e := turns.Leave(y, nation, x.after); (e == api.ErrBad) != bad {
				t.Error(i, nation, e)
			}
			if _, e := turns.Leave(y, nation, api.MaxTotal+1); e != api.ErrArg {
				t.Error(i, nation, e)
			}
		}
	}
}

// P8.3: a lorry's way is rounded up, at least and at most.
func TestUp(t *testing.T) {
	for i, x := range []struct {
		long []api.Span
		pace int
		want api.Span
	}{
		{[]api.Span{span(2, 2)}, 0, span(0, 0)}, {[]api.Span{span(2, 2)}, 1, span(1, 1)}, {[]api.Span{span(2, 2)}, 500, span(1, 1)}, {[]api.Span{span(2, 2)}, 501, span(2, 2)},
		{[]api.Span{span(999, 1001)}, 1, span(1, 2)}, {[]api.Span{span(1000, 1000)}, 1, span(1, 1)}, {[]api.Span{span(1000, 1100)}, 20, span(20, 22)},
		{[]api.Span{span(500, 501), span(500, 500)}, 1, span(1, 2)}, {[]api.Span{span(499, 500), span(400, 500), span(1, 1)}, 10, span(9, 11)},
		{slices.Repeat([]api.Span{span(2, api.MaxLong)}, api.MaxStretches), api.MaxSeconds, span(87, 1296000)},
	} {
		y := of(1)
		y.Line.Track.Stretches, y.Line.Beams, y.Line.Finish, y.Pace = nil, []api.Beam{{Spot: spot(1, 1)}}, 0, x.pace
		for i, long := range x.long {
			y.Line.Track.Stretches = append(y.Line.Track.Stretches, api.Stretch{Id: i, Long: long})
		}
		if s, e := turns.Up(y); s != x.want || e != api.OK {
			t.Error(i, s, e)
		}
	}
}

// P8.3: runs start at once, or wait for a sled, which waits for a lorry.
func TestStartsByLorries(t *testing.T) {
	// Nations with a sled each, a gap of 10, 20 down, a lorry of one seat every 30, and no time up.
	quick := func(change func(t *api.Training), wishes ...int) api.Training {
		y := of(wishes...)
		y.Gap, y.Down, y.Every, y.Seats, y.Pace = 10, 20, 30, 1, 0
		change(&y)
		return y
	}
	for i, x := range []struct {
		t      api.Training
		starts []int
		waits  []int
	}{
		{quick(func(t *api.Training) {}, 0), nil, nil},
		{quick(func(t *api.Training) {}, 1), ints(0), nil},
		{quick(func(t *api.Training) {}, 3), ints(0, 30, 60), ints(1, 2)},
		{quick(func(t *api.Training) { t.Down = 30 }, 2), ints(0, 30), ints(1)},
		{quick(func(t *api.Training) { t.Down = 31 }, 2), ints(0, 60), ints(1)},
		{quick(func(t *api.Training) { t.Gap = 29 }, 2), ints(0, 30), ints(1)},
		{quick(func(t *api.Training) { t.Gap = 30 }, 2), ints(0, 30), nil},
		{quick(func(t *api.Training) { t.Gap = 31 }, 2), ints(0, 31), nil},
		{quick(func(t *api.Training) { t.Every = 1 }, 3), ints(0, 20, 40), ints(1, 2)},
		{quick(func(t *api.Training) { t.Pace = 1 }, 3), ints(0, 41, 101), ints(1, 2)},
		// The second sled has no seat at 30, and the third one none at 60.
		{quick(func(t *api.Training) { t.Down = 1 }, 2, 2, 2), ints(0, 10, 20, 60, 90, 100), ints(3, 4)},
		{quick(func(t *api.Training) { t.Down, t.Seats = 1, 2 }, 2, 2, 2), ints(0, 10, 20, 30, 60, 70), ints(4)},
		{quick(func(t *api.Training) { t.Down, t.Seats = 1, 3 }, 2, 2, 2), ints(0, 10, 20, 30, 40, 50), nil},
		// A nation has more sleds: the run 3 is its own.
		{quick(func(t *api.Training) { t.Nations[1].Sleds = 2 }, 2, 2, 2), ints(0, 10, 20, 30, 90, 100), ints(4)},
		{quick(func(t *api.Training) { t.Nations[0].Sleds = 2 }, 5), ints(0, 10, 30, 60, 90), ints(2, 3, 4)},
		{quick(func(t *api.Training) { t.Nations[0].Sleds = 5 }, 5), ints(0, 10, 20, 30, 40), nil},
		// A lorry that has left with a seat does not come back for who is late.
		{quick(func(t *api.Training) { t.Gap, t.Seats = 20, 6 }, 2, 2), ints(0, 20, 60, 80), ints(2)},
	} {
		starts, e := turns.Starts(x.t)
		waits, f := turns.Waits(x.t)
		if !slices.Equal(starts, x.starts) || e != api.OK || !slices.Equal(waits, x.waits) || f != api.OK {
			t.Error(i, starts, e, waits, f)
		}
	}
}

// P8.4: a ride went well if it came to the finish, and no later.
func TestWellByRides(t *testing.T) {
	open, none := ride(10000, 20000, sig(1, 12600)), ride(10000, 12000)
	// It may have passed the finish from 12,000 to 12,500, if both beams missed it.
	late := ride(10000, 12500)
	for i, x := range []struct {
		r         api.Ride
		time      int
		sure, may int
	}{
		{down(), 2595, 0, 0}, {down(), 2596, 0, 1}, {down(), 2601, 0, 1}, {down(), 2602, 1, 1}, {down(), api.MaxClock, 1, 1}, {down(), 1, 0, 0},
		{open, 2595, 0, 0}, {open, 2596, 0, 1}, {open, 2602, 0, 1}, {open, api.MaxClock, 0, 1}, {none, api.MaxClock, 0, 0},
		{late, 1999, 0, 0}, {late, 2000, 0, 1}, {late, api.MaxClock, 0, 1},
	} {
		y := camp(func(t *api.Training) {
			t.Athletes[0].Rides, t.Permits[1].Time = []api.Ride{x.r}, x.time
		})
		if x.r.Now == late.Now {
			y.Line.Misses = 2
		}
		if sure, may, e := turns.Well(y, 0, 2); sure != x.sure || may != x.may || e != api.OK {
			t.Error(i, sure, may, e)
		}
	}
}

// P8.4: a licence is by age, and by how many rides went well.
func TestLicences(t *testing.T) {
	open, none := ride(10000, 20000, sig(1, 12600)), ride(10000, 12000)
	for i, x := range []struct {
		rides []api.Ride
		known []uint8 // by how many runs are asked
	}{
		{nil, []uint8{2, 0, 0, 0, 0}}, {[]api.Ride{none}, []uint8{2, 0, 0, 0, 0}}, {[]api.Ride{open}, []uint8{2, 1, 0, 0, 0}}, {[]api.Ride{down()}, []uint8{2, 2, 0, 0, 0}},
		{[]api.Ride{open, none, down()}, []uint8{2, 2, 1, 0, 0}}, {[]api.Ride{open, down(), open}, []uint8{2, 2, 1, 1, 0}}, {[]api.Ride{down(), open, down()}, []uint8{2, 2, 2, 1, 0}}, {[]api.Ride{down(), down(), down()}, []uint8{2, 2, 2, 2, 0}},
	} {
		for runs, known := range x.known {
			for age, asked := range map[int]int{16: 16, 17: 16, 15: 16, 0: 0, api.MaxAge: api.MaxAge, api.MaxAge - 1: api.MaxAge} {
				y := camp(func(t *api.Training) {
					t.Athletes[0].Age, t.Athletes[0].Rides = age, x.rides
					t.Permits = [api.Classes]api.Permit{permit(api.MaxAge, 4, 1), permit(asked, runs, 2602), permit(api.MaxAge, 4, 1)}
				})
				want := known
				if age < asked {
					want = api.KnownNo
				}
				if k, e := turns.Licence(y, 0, 2); k != want || e != api.OK {
					t.Error(i, runs, age, k, e)
				}
			}
		}
	}
}

// P8.4: a team is who surely has a licence, of the nation and for the class that are asked about.
func TestTeams(t *testing.T) {
	y := camp(func(t *api.Training) {
		open := ride(10000, 20000, sig(1, 12600))
		t.Athletes = []api.Athlete{
			{Id: 1, Nation: 2, Age: 20, Rides: []api.Ride{down(), down()}}, {Id: 2, Nation: 0, Age: 20}, {Id: 3, Nation: 2, Age: 15, Rides: []api.Ride{down(), down()}},
			{Id: 4, Nation: 2, Age: 16, Rides: []api.Ride{open, down(), down()}}, {Id: 5, Nation: 2, Age: 40, Rides: []api.Ride{open, down(), open}}, {Id: 6, Nation: 0, Age: 18, Rides: []api.Ride{down(), down()}},
		}
	})
	for nation, teams := range [][][]int{{nil, {5}, {1}}, {nil, nil, nil}, {nil, {0, 3}, {0, 4}}} {
		for i, want := range teams {
			if l, e := turns.Team(y, nation, i+1); !slices.Equal(l, want) || e != api.OK {
				t.Error(nation, i+1, l, e)
			}
		}
	}
}

// P8.1, P8.3, P8.4: trainings that are thrown, by all truths of their rides, and second by second.
func TestSmallTrainingsWordForWord(t *testing.T) {
	d := newDice(1)
	wordForWord(t, d, small(), byTruths, 1200, func(x api.Training, s story) {
		if starts := startsBySeconds(x); !slices.Equal(starts, s.starts) {
			t.Error(x, s.starts, starts)
		}
	})
}

// P8.1, P8.3, P8.4: great trainings that are thrown, by what layer 5 tells of their rides.
func TestGreatTrainingsWordForWord(t *testing.T) {
	wordForWord(t, newDice(2), great(), byBeams, 1200, func(api.Training, story) {})
}

// wordForWord compares what is told of trainings with what the chapter says, and looks whether all sorts of results have been seen.
func wordForWord(t *testing.T, d dice, s size, by teller, count int, more func(x api.Training, s story)) {
	t.Helper()
	seen := map[string]int{}
	for range count {
		x := d.training(s).Training
		got, want := told(t, x), storyOf(x, by)
		if !equal(got, want) {
			t.Error(x, got, want)
		}
		more(x, got)
		seen[fmt.Sprint("gone ", len(x.Gones) > 0)]++
		seen[fmt.Sprint("all ", len(got.turns) == x.Total)]++
		seen[fmt.Sprint("waits ", min(2, len(got.waits)))]++
		for athlete := range x.Athletes {
			for i := range x.Permits {
				seen[fmt.Sprint("licence ", got.licences[athlete][i])]++
				seen[fmt.Sprint("well ", got.well[athlete][i])]++
			}
		}
	}
	for _, sort := range []string{"gone false", "gone true", "all false", "all true", "waits 0", "waits 1", "waits 2", "licence 0", "licence 1", "licence 2", "well [0 0]", "well [0 1]", "well [1 1]", "well [0 2]", "well [1 2]", "well [2 2]", "well [3 3]"} {
		if seen[sort] < 30 {
			t.Error("too few of a sort:", sort, seen)
		}
	}
}
