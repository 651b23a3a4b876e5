package jury_test

import (
	"fmt"
	"math"
	"slices"
	"testing"

	"kreisel/api"
	"kreisel/jury"
)

// far are numbers that no field allows.
var far = []int{math.MinInt, math.MinInt + 1, math.MinInt32, math.MaxInt32 + 1, math.MaxInt - 1, math.MaxInt}

// An asked is all that a call may be asked about.
type asked struct {
	j                          api.Jury
	fault, heat, sled, protest int
	d                          api.Descent
}

// ask returns what the chapter's examples ask about.
func ask() asked { return asked{winter(), 0, 0, 0, 0, fixed(2600, 2610)} }

// A result is what a call returned, as a text, and that of a zero value.
type result struct {
	name       string
	text, zero string
	e          api.Errno
}

// gave returns the result of a call; nil and an empty list have the same text.
func gave[T any](name string, value T, e api.Errno) result {
	var zero T
	return result{name, fmt.Sprint(value), fmt.Sprint(zero), e}
}

// calls calls all functions.
func calls(x asked) []result {
	touch, e1 := jury.Touch(x.j, x.fault, x.heat, x.sled)
	hit, e2 := jury.Hit(x.j, x.fault)
	late, e3 := jury.Late(x.j, x.protest)
	grants, e4 := jury.Grants(x.j)
	repeats, e5 := jury.Repeats(x.j)
	back, kept, e6 := jury.Money(x.j)
	purse, e7 := jury.Purse(x.j, x.sled)
	replaced, e8 := jury.Replace(x.j, x.heat, x.sled, x.d)
	return []result{
		gave("Check", 0, jury.Check(x.j)), gave("Touch", touch, e1), gave("Hit", hit, e2), gave("Late", late, e3), gave("Grants", grants, e4),
		gave("Repeats", repeats, e5), gave("Money", [2]int{back, kept}, e6), gave("Purse", purse, e7), gave("Replace", replaced, e8),
	}
}

// all are the functions that tell of a jury that is not valid.
func all() []string {
	return []string{"Check", "Touch", "Hit", "Late", "Grants", "Repeats", "Money", "Purse", "Replace"}
}

// checked reports each call that does not return an error of a jury, if there has to be one, each one that returns one, if there is none, and each error with something else.
func checked(t *testing.T, about any, x asked, want api.Errno) {
	t.Helper()
	for _, r := range calls(x) {
		if want != api.OK && r.e != want || want == api.OK && slices.Contains([]api.Errno{api.ErrTrack, api.ErrLine, api.ErrRace, api.ErrJury}, r.e) || r.e != api.OK && r.text != r.zero {
			t.Error(about, r, want)
		}
	}
}

// A number is one that is asked about, from where to where it may be, and by which functions.
type number struct {
	name   string
	of     func(x *asked) *int
	lo, hi int
	e      api.Errno
	by     []string
}

func numbers() []number {
	return []number{
		{"Minutes", func(x *asked) *int { return &x.j.Minutes }, 0, api.MaxMinutes, api.ErrJury, all()},
		{"Fee", func(x *asked) *int { return &x.j.Fee }, 0, api.MaxFee, api.ErrJury, all()},
		{"From", func(x *asked) *int { return &x.j.Faults[0].From }, 0, 13000, api.ErrJury, all()},
		{"To", func(x *asked) *int { return &x.j.Faults[0].To }, 12600, api.MaxClock, api.ErrJury, all()},
		{"From of the last one", func(x *asked) *int { return &x.j.Faults[3].From }, 0, 14000, api.ErrJury, all()},
		{"To of the last one", func(x *asked) *int { return &x.j.Faults[3].To }, 13000, api.MaxClock, api.ErrJury, all()},
		{"Where of wind", func(x *asked) *int { return &x.j.Faults[0].Where }, 0, 0, api.ErrJury, all()},
		{"Where of ice", func(x *asked) *int { return &x.j.Faults[1].Where }, 0, 1, api.ErrJury, all()},
		{"Where of a beam", func(x *asked) *int { return &x.j.Faults[2].Where }, 0, 1, api.ErrJury, all()},
		{"the first Id", func(x *asked) *int { return &x.j.Protests[0].Id }, 0, 4, api.ErrJury, all()},
		{"the second Id", func(x *asked) *int { return &x.j.Protests[1].Id }, 3, 5, api.ErrJury, all()},
		{"the last Id", func(x *asked) *int { return &x.j.Protests[2].Id }, 6, api.MaxId, api.ErrJury, all()},
		// All others are fixed.
		{"Sled", func(x *asked) *int { return &x.j.Protests[0].Sled }, 0, 0, api.ErrJury, all()},
		{"Heat", func(x *asked) *int { return &x.j.Protests[1].Heat }, 0, 0, api.ErrJury, all()},
		{"Fault", func(x *asked) *int { return &x.j.Protests[2].Fault }, 0, 3, api.ErrJury, all()},
		{"At", func(x *asked) *int { return &x.j.Protests[2].At }, 10000, api.MaxClock, api.ErrJury, all()},
		{"fault", func(x *asked) *int { return &x.fault }, 0, 3, api.ErrArg, []string{"Touch", "Hit"}},
		{"heat", func(x *asked) *int { return &x.heat }, 0, 1, api.ErrArg, []string{"Touch"}},
		{"sled", func(x *asked) *int { return &x.sled }, 0, 2, api.ErrArg, []string{"Touch", "Purse"}},
		{"protest", func(x *asked) *int { return &x.protest }, 0, 2, api.ErrArg, []string{"Late"}},
	}
}

// P7.1 to P7.4, R5: each number has its ends, and however far it is beyond them is the same error.
func TestNumbersHaveEnds(t *testing.T) {
	// told asks with one number changed.
	told := func(f number, n int, want api.Errno) {
		x := ask()
		*f.of(&x) = n
		for _, r := range calls(x) {
			if r.name == "Replace" && want == api.OK && r.e == api.ErrBad {
				// What is repeated depends on all of them.
				continue
			}
			if slices.Contains(f.by, r.name) && (r.e != want || want != api.OK && r.text != r.zero) {
				t.Error(f.name, n, r, want)
			}
		}
	}
	for _, f := range numbers() {
		for _, n := range []int{f.lo, (f.lo + f.hi) / 2, f.hi} {
			told(f, n, api.OK)
		}
		for _, n := range append([]int{f.lo - 1, f.hi + 1}, far...) {
			told(f, n, f.e)
		}
	}
}

// P7.4, R1: what is replaced has to be a heat and a sled, and then repeated.
func TestReplaceHasArguments(t *testing.T) {
	for _, heat := range append(ints(-1, 0, 1, 2), far...) {
		for _, sled := range append(ints(-1, 0, 1, 2, 3), far...) {
			want := api.ErrBad
			switch {
			case heat < 0 || heat > 1 || sled < 0 || sled > 2:
				want = api.ErrArg
			case heat == 0 && sled == 0:
				want = api.OK
			}
			for _, d := range []api.Descent{fixed(5, 6), fixed(6, 5)} {
				if want == api.OK && d.Time.Lo > d.Time.Hi {
					want = api.ErrRace
				}
				r, e := jury.Replace(winter(), heat, sled, d)
				if e != want || e != api.OK && fmt.Sprint(r) != fmt.Sprint(api.Race{}) {
					t.Error(heat, sled, d, r, e)
				}
			}
		}
	}
}

// P7.1, R6: kinds of faults, and where they are, also on lines of other lengths.
func TestKindsOfFaults(t *testing.T) {
	for finish := range 3 {
		for kind := range 256 {
			for where := -1; where < 5; where++ {
				x, want := ask(), api.ErrJury
				// The third beam may have missed the sled, so that it may have come to any finish.
				x.j.Race.Line.Finish = finish
				x.j.Faults = []api.Fault{{Kind: uint8(kind), Where: where, From: 5, To: 5}}
				x.j.Protests = nil
				if kind == api.FaultWind && where == 0 || (kind == api.FaultIce || kind == api.FaultBeam) && where >= 0 && where <= finish {
					want = api.OK
				}
				if e := jury.Check(x.j); e != want {
					t.Error(finish, kind, where, e)
				}
				if kind < 5 {
					checked(t, []int{finish, kind, where}, x, want)
				}
			}
		}
	}
}

// P7.1: faults and protests are not more than their limits.
func TestListsHaveLimits(t *testing.T) {
	for faults := range api.MaxFaults + 4 {
		for protests := range api.MaxProtests + 4 {
			x, want := ask(), api.OK
			x.j.Faults, x.j.Protests = slices.Repeat([]api.Fault{wind(12600, 13000)}, faults), nil
			for i := range protests {
				x.j.Protests = append(x.j.Protests, protest(i, 0, 0, max(0, faults-1), 20000))
			}
			// A protest is about a fault.
			if faults > api.MaxFaults || protests > api.MaxProtests || faults == 0 && protests > 0 {
				want = api.ErrJury
			}
			checked(t, []int{faults, protests}, x, want)
		}
	}
}

// P7.1: protests are by Id, and no two have the same one.
func TestProtestsById(t *testing.T) {
	for n := range 6 * 6 * 6 {
		ids := ints(n%6-1, n/6%6-1, n/36-1)
		x, want := ask(), api.ErrJury
		for i, id := range ids {
			x.j.Protests[i].Id = id
		}
		if ids[0] >= 0 && ids[0] < ids[1] && ids[1] < ids[2] {
			want = api.OK
		}
		checked(t, ids, x, want)
	}
}

// P7.1: a protest is about a ride, and not before its start.
func TestProtestsAreAboutRides(t *testing.T) {
	j := of(line(), [][]api.Descent{
		{down(), out(), fixed(5, 6)},
		{fixed(5, 6), ride(30000, 40000, sig(0, 30600), sig(1, 32600)), out()},
	}, wind(0, 50000))
	for heat := -1; heat < 3; heat++ {
		for sled := -1; sled < 4; sled++ {
			for _, at := range ints(-1, 0, 9999, 10000, 29999, 30000, api.MaxClock, api.MaxClock+1) {
				x, want := asked{j: j, d: fixed(5, 6)}, api.ErrJury
				x.j.Protests = []api.Protest{protest(1, sled, heat, 0, at)}
				if (heat == 0 && sled == 0 && at >= 10000 || heat == 1 && sled == 1 && at >= 30000) && at <= api.MaxClock {
					want = api.OK
				}
				checked(t, []int{heat, sled, at}, x, want)
			}
		}
	}
}

// P7.1: one that is wrong is found wherever it stands.
func TestOneOfSeveralIsWrong(t *testing.T) {
	for i := range 4 {
		for _, change := range []func(f *api.Fault){
			func(f *api.Fault) { f.Kind = 0 }, func(f *api.Fault) { f.Kind = 4 }, func(f *api.Fault) { f.Where = -1 }, func(f *api.Fault) { f.Where = 2 }, func(f *api.Fault) { f.From = f.To + 1 }, func(f *api.Fault) { f.From = -1 }, func(f *api.Fault) { f.To = api.MaxClock + 1 },
		} {
			x := ask()
			change(&x.j.Faults[i])
			checked(t, i, x, api.ErrJury)
		}
	}
	for i := range 3 {
		for _, change := range []func(p *api.Protest){
			func(p *api.Protest) { p.Id = -1 }, func(p *api.Protest) { p.Id = api.MaxId + 1 }, func(p *api.Protest) { p.Sled = 1 }, func(p *api.Protest) { p.Sled = 3 }, func(p *api.Protest) { p.Heat = 1 }, func(p *api.Protest) { p.Heat = 2 }, func(p *api.Protest) { p.Fault = 4 }, func(p *api.Protest) { p.Fault = -1 }, func(p *api.Protest) { p.At = 9999 }, func(p *api.Protest) { p.At = api.MaxClock + 1 },
		} {
			x := ask()
			change(&x.j.Protests[i])
			checked(t, i, x, api.ErrJury)
		}
	}
}

// P7.1, R1: all errors of a race come before those of the jury.
func TestErrorsOfRaces(t *testing.T) {
	for i, x := range []struct {
		change func(r *api.Race)
		e      api.Errno
	}{
		{func(r *api.Race) { r.Line.Track.Stretches = nil }, api.ErrTrack}, {func(r *api.Race) { r.Line.Track.Stretches[0].Wall, r.Line.Fast = -1, 0 }, api.ErrTrack},
		{func(r *api.Race) { r.Line.Fast = 0 }, api.ErrLine}, {func(r *api.Race) { r.Line.Clocks[0].Syncs[1].Ahead = span(60, 60) }, api.ErrLine}, {func(r *api.Race) { r.Line.Beams, r.Draw = nil, nil }, api.ErrLine}, {func(r *api.Race) { r.Line.Finish = 3 }, api.ErrLine},
		{func(r *api.Race) { r.Draw = nil }, api.ErrRace}, {func(r *api.Race) { r.Turn = -1 }, api.ErrRace}, {func(r *api.Race) { r.Heats = nil }, api.ErrRace}, {func(r *api.Race) { r.Heats[1] = r.Heats[1][:2] }, api.ErrRace}, {func(r *api.Race) { r.Heats[0][0].Ride.Now = 10000 }, api.ErrRace}, {func(r *api.Race) { r.Heats[1][2].Time.Lo = 0 }, api.ErrRace}, {func(r *api.Race) { r.Line.Fakes = 0 }, api.ErrRace},
	} {
		for _, fee := range ints(-1, 500) {
			y := ask()
			x.change(&y.j.Race)
			y.j.Fee = fee
			checked(t, i, y, x.e)
		}
	}
}

// R1, R2: errors are told in the order of the descriptions, and nothing with them.
func TestErrorsInOrder(t *testing.T) {
	kinds := []struct {
		make func(x *asked)
		e    api.Errno
		told []string
	}{
		{func(x *asked) { x.j.Race.Line.Track.Stretches[0].Long.Lo = 0 }, api.ErrTrack, all()},
		{func(x *asked) { x.j.Race.Line.Fast = 0 }, api.ErrLine, all()},
		{func(x *asked) { x.j.Race.Turn = -1 }, api.ErrRace, all()},
		{func(x *asked) { x.j.Minutes = 61 }, api.ErrJury, all()},
		{func(x *asked) { x.fault = 4 }, api.ErrArg, []string{"Touch", "Hit"}},
		{func(x *asked) { x.heat = 2 }, api.ErrArg, []string{"Touch", "Replace"}},
		{func(x *asked) { x.sled = -1 }, api.ErrArg, []string{"Touch", "Purse", "Replace"}},
		{func(x *asked) { x.protest = 3 }, api.ErrArg, []string{"Late"}},
		{func(x *asked) { x.j.Protests[0].At = 72603 }, api.ErrBad, []string{"Replace"}},
		{func(x *asked) { x.d.Time.Lo = 0 }, api.ErrRace, []string{"Replace"}},
	}
	for set := range 1 << len(kinds) {
		x, want := ask(), map[string]api.Errno{}
		// What comes first is made last, so that nothing else undoes it.
		for i := len(kinds) - 1; i >= 0; i-- {
			if set>>i&1 == 0 {
				continue
			}
			kinds[i].make(&x)
			for _, name := range kinds[i].told {
				want[name] = kinds[i].e
			}
		}
		for _, r := range calls(x) {
			if r.e != want[r.name] || r.e != api.OK && r.text != r.zero {
				t.Error(set, r, want[r.name])
			}
		}
	}
}
