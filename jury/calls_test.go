package jury_test

import (
	"fmt"
	"slices"
	"testing"

	"kreisel/api"
	"kreisel/jury"
	"kreisel/race"
)

// P7.1: the chapter's examples of faults.
func TestExamplesOfFaults(t *testing.T) {
	for i, x := range []struct {
		fault, sled int
		want        uint8
	}{{0, 0, api.KnownOpen}, {1, 0, api.KnownYes}, {2, 0, api.KnownOpen}, {3, 0, api.KnownNo}, {0, 1, api.KnownNo}} {
		if k, e := jury.Touch(winter(), x.fault, 0, x.sled); k != x.want || e != api.OK {
			t.Error(i, k, e)
		}
	}
	for fault, want := range []string{"[[0] []]", "[[0] []]", "[[0] []]", "[[] []]"} {
		if l, e := jury.Hit(winter(), fault); fmt.Sprint(l) != want || e != api.OK {
			t.Error(fault, l, e)
		}
	}
}

// P7.2 to P7.4: the chapter's examples of protests.
func TestExamplesOfProtests(t *testing.T) {
	for i, want := range []uint8{api.KnownNo, api.KnownYes, api.KnownNo} {
		if k, e := jury.Late(winter(), i); k != want || e != api.OK {
			t.Error(i, k, e)
		}
	}
	if l, e := jury.Grants(winter()); !slices.Equal(l, ints(0)) || e != api.OK {
		t.Error(l, e)
	}
	if l, e := jury.Repeats(winter()); fmt.Sprint(l) != "[[0] []]" || e != api.OK {
		t.Error(l, e)
	}
	if back, kept, e := jury.Money(winter()); back != 500 || kept != 1000 || e != api.OK {
		t.Error(back, kept, e)
	}
	for sled, want := range ints(-1000, 0, 0) {
		if n, e := jury.Purse(winter(), sled); n != want || e != api.OK {
			t.Error(sled, n, e)
		}
	}
}

// exact returns the line of layer 5's examples with a clock that is never wrong, and signals and beams that are all right.
func exact() api.Line {
	l := line()
	l.Fakes, l.Misses, l.Clocks = 0, 0, []api.Clock{{Syncs: []api.Sync{{}}}}
	return l
}

// touches reports each fault that does not touch the first sled of a jury as it should.
func touches(t *testing.T, l api.Line, d api.Descent, list []struct {
	f    api.Fault
	want uint8
}) {
	t.Helper()
	for i, x := range list {
		j := of(l, [][]api.Descent{{d}}, x.f)
		if k, e := jury.Touch(j, 0, 0, 0); k != x.want || e != api.OK {
			t.Error(i, x, k, e)
		}
	}
}

// P7.1: at the ends of faults, if all times are known.
func TestFaultsOfKnownTimes(t *testing.T) {
	// From 10,000 by the beams at 10,600, 12,700 and 15,300.
	l := exact()
	l.Finish = 2
	d := ride(10000, 20000, sig(0, 10600), sig(1, 12700), sig(2, 15300))
	touches(t, l, d, []struct {
		f    api.Fault
		want uint8
	}{
		{wind(0, 9999), 0}, {wind(0, 10000), 2}, {wind(12000, 12000), 2}, {wind(15300, 15300), 2}, {wind(15301, api.MaxClock), 0}, {wind(0, api.MaxClock), 2},
		{ice(0, 0, 9999), 0}, {ice(0, 0, 10000), 2}, {ice(0, 10600, 10600), 2}, {ice(0, 10601, 10601), 0},
		{ice(1, 10599, 10599), 0}, {ice(1, 10600, 10600), 2}, {ice(1, 12700, 12700), 2}, {ice(1, 12701, 12701), 0},
		{ice(2, 12699, 12699), 0}, {ice(2, 12700, 12700), 2}, {ice(2, 15300, 15300), 2}, {ice(2, 15301, 15301), 0},
		{dark(0, 10601, 20000), 0}, {dark(0, 10600, 20000), 2}, {dark(0, 0, 10600), 2}, {dark(0, 0, 10599), 0},
		{dark(1, 12701, 20000), 0}, {dark(1, 12700, 12700), 2}, {dark(1, 0, 12699), 0},
		{dark(2, 15301, 20000), 0}, {dark(2, 15300, 15300), 2}, {dark(2, 0, 15299), 0},
	})
}

// P7.1: at the ends of spans between which a sled passed beams.
func TestFaultsOfSpans(t *testing.T) {
	// From 10,000; between 10,596 and 11,002; between 12,596 and 12,602.
	touches(t, line(), down(), []struct {
		f    api.Fault
		want uint8
	}{
		{wind(12596, 13000), 2}, {wind(12597, 13000), 1}, {wind(12602, 13000), 1}, {wind(12603, 13000), 0}, {wind(9000, 9999), 0}, {wind(9000, 10000), 2},
		{ice(0, 10596, 10596), 2}, {ice(0, 10597, 10597), 1}, {ice(0, 11002, 11002), 1}, {ice(0, 11003, 11003), 0},
		{ice(1, 10000, 10595), 0}, {ice(1, 10000, 10596), 1}, {ice(1, 10000, 11001), 1}, {ice(1, 10000, 11002), 2}, {ice(1, 12596, 12596), 2}, {ice(1, 12597, 12597), 1}, {ice(1, 12602, 12602), 1}, {ice(1, 12603, 12603), 0},
		{dark(0, 10000, 10595), 0}, {dark(0, 10000, 10596), 1}, {dark(0, 10596, 11001), 1}, {dark(0, 10596, 11002), 2}, {dark(0, 10597, 11002), 1}, {dark(0, 11002, 11002), 1}, {dark(0, 11003, 11003), 0}, {dark(0, 0, api.MaxClock), 2},
		{dark(1, 12596, 12602), 2}, {dark(1, 12597, 12602), 1}, {dark(1, 12596, 12601), 1}, {dark(1, 12603, 13000), 0}, {dark(1, 12000, 12595), 0},
	})
}

// P7.1: where a sled may not have passed a beam, it may still be before it at any later time.
func TestFaultsOfSledsThatMayNotHavePassed(t *testing.T) {
	// At 10,600 it passed the first beam, between 12,100 and 14,000 it may have passed the second one.
	l := exact()
	l.Misses = 1
	touches(t, l, ride(10000, 14000, sig(0, 10600)), []struct {
		f    api.Fault
		want uint8
	}{
		{wind(12100, 12100), 2}, {wind(12101, 12101), 1}, {wind(14001, 14001), 1}, {wind(api.MaxClock, api.MaxClock), 1}, {wind(0, 9999), 0},
		{ice(0, 10600, 10700), 2}, {ice(0, 10601, 10700), 0}, {ice(1, 10000, 10599), 0}, {ice(1, 10000, 10600), 2}, {ice(1, 12100, 12100), 2}, {ice(1, 12101, 12101), 1}, {ice(1, api.MaxClock, api.MaxClock), 1},
		{dark(0, 10600, 10600), 2}, {dark(1, 0, 12099), 0}, {dark(1, 0, 12100), 1}, {dark(1, 12100, 14000), 1}, {dark(1, 0, api.MaxClock), 1}, {dark(1, 14001, 15000), 1}, {dark(1, api.MaxClock, api.MaxClock), 1},
	})
	// Both may have missed it, at first from 10,500 to 12,500, then from 12,000 to 14,000: it may not have come in.
	l.Misses = 2
	touches(t, l, ride(10000, 14000), []struct {
		f    api.Fault
		want uint8
	}{
		{wind(0, 10000), 2}, {wind(12000, 12000), 2}, {wind(12001, 12001), 1}, {ice(0, 10000, 10000), 2}, {ice(0, 10500, 10500), 2}, {ice(0, 10501, 10501), 1}, {ice(0, api.MaxClock, api.MaxClock), 1},
		{ice(1, 10000, 10499), 0}, {ice(1, 10000, 10500), 1}, {ice(1, 0, api.MaxClock), 1}, {ice(1, api.MaxClock, api.MaxClock), 1}, {dark(0, 0, 10499), 0}, {dark(0, 0, api.MaxClock), 1}, {dark(0, api.MaxClock, api.MaxClock), 1},
	})
}

// P7.1: what is out or fixed is not touched; who is touched is told heat by heat.
func TestFaultsByHeats(t *testing.T) {
	j := of(exact(), [][]api.Descent{
		{ride(10000, 20000, sig(0, 10600), sig(1, 12700)), out(), ride(30000, 40000, sig(0, 30600), sig(1, 32700))},
		{fixed(1, 20000), ride(50000, 60000, sig(0, 50600), sig(1, 52700)), ride(12000, 20000, sig(0, 12600), sig(1, 14700))},
		{out(), fixed(5, 6), out()},
	}, wind(12500, 12600), wind(0, api.MaxClock), wind(20000, 20001), ice(0, 12600, 30000))
	for fault, want := range [][][]int{lists(ints(0), ints(2), nil), lists(ints(0, 2), ints(1, 2), nil), lists(nil, nil, nil), lists(ints(2), ints(2), nil)} {
		l, e := jury.Hit(j, fault)
		if fmt.Sprint(l) != fmt.Sprint(want) || e != api.OK {
			t.Error(fault, l, e)
		}
		for heat, sleds := range want {
			for sled := range 3 {
				known := uint8(0)
				if slices.Contains(sleds, sled) {
					known = api.KnownYes
				}
				if k, e := jury.Touch(j, fault, heat, sled); k != known || e != api.OK {
					t.Error(fault, heat, sled, k, e)
				}
			}
		}
	}
}

// P7.2: minutes are from the finish on, as far as it is known.
func TestMinutes(t *testing.T) {
	open := line()
	open.Fakes, open.Clocks = 0, exact().Clocks
	for i, x := range []struct {
		l           api.Line
		d           api.Descent
		minutes, at int
		want        uint8
	}{
		{line(), down(), 0, 10000, 0}, {line(), down(), 0, 12596, 0}, {line(), down(), 0, 12597, 1}, {line(), down(), 0, 12602, 1}, {line(), down(), 0, 12603, 2}, {line(), down(), 0, api.MaxClock, 2},
		{line(), down(), 1, 72596, 0}, {line(), down(), 1, 72597, 1}, {line(), down(), 1, 72602, 1}, {line(), down(), 1, 72603, 2}, {line(), down(), 60, 3612596, 0}, {line(), down(), 60, 3612602, 1}, {line(), down(), 60, 3612603, 2},
		// It may have passed the finish between 12,100 and 14,000.
		{open, ride(10000, 14000, sig(0, 10600)), 0, 12100, 0}, {open, ride(10000, 14000, sig(0, 10600)), 0, 12101, 1}, {open, ride(10000, 14000, sig(0, 10600)), 0, 14001, 1}, {open, ride(10000, 14000, sig(0, 10600)), 2, 132100, 0}, {open, ride(10000, 14000, sig(0, 10600)), 2, 132101, 1}, {open, ride(10000, 14000, sig(0, 10600)), 0, api.MaxClock, 1},
	} {
		j := of(x.l, [][]api.Descent{{out(), x.d}}, wind(0, api.MaxClock), wind(0, 0))
		j.Minutes, j.Protests = x.minutes, []api.Protest{protest(1, 1, 0, 0, x.at), protest(2, 1, 0, 1, x.at)}
		for k := range 2 {
			if n, e := jury.Late(j, k); n != x.want || e != api.OK {
				t.Error(i, k, n, e)
			}
		}
		var want []int
		if x.want < api.KnownYes {
			want = ints(0)
		}
		if l, e := jury.Grants(j); !slices.Equal(l, want) || e != api.OK {
			t.Error(i, l, e)
		}
	}
	// A ride from the first time of the day on, and a protest at it.
	l := exact()
	l.Misses, l.Finish = 1, 0
	j := of(l, [][]api.Descent{{ride(0, 600)}}, wind(0, 0))
	j.Minutes, j.Protests = 0, []api.Protest{protest(1, 0, 0, 0, 0), protest(2, 0, 0, 0, 500), protest(3, 0, 0, 0, 501)}
	if s := told(t, j); fmt.Sprint(s.late) != "[0 0 1]" || fmt.Sprint(s.grants) != "[0 1 2]" {
		t.Error(s)
	}
}

// P7.2 to P7.4: who protests, and who is touched in which heat, need not be the same.
func TestProtestsByHeats(t *testing.T) {
	j := of(exact(), [][]api.Descent{
		{ride(10000, 20000, sig(0, 10600), sig(1, 12700)), ride(11000, 20000, sig(0, 11600), sig(1, 13700)), fixed(5, 6)},
		{out(), ride(12500, 20000, sig(0, 13100), sig(1, 15000)), ride(30000, 40000, sig(0, 30600), sig(1, 32700))},
	}, wind(12600, 12650), wind(12800, 12900), wind(30000, 30001), wind(0, 0))
	for i, x := range []struct {
		protests   []api.Protest
		grants     []int
		repeats    [][]int
		back, kept int
		purses     []int
	}{
		{nil, nil, lists(nil, nil), 0, 0, ints(0, 0, 0)},
		{[]api.Protest{protest(1, 0, 0, 0, 20000)}, ints(0), lists(ints(0, 1), ints(1)), 100, 0, ints(0, 0, 0)},
		{[]api.Protest{protest(1, 0, 0, 1, 20000)}, nil, lists(nil, nil), 0, 100, ints(-100, 0, 0)},
		{[]api.Protest{protest(1, 0, 0, 0, 72701)}, nil, lists(nil, nil), 0, 100, ints(-100, 0, 0)},
		{[]api.Protest{protest(1, 1, 1, 1, 20000)}, ints(0), lists(ints(1), ints(1)), 100, 0, ints(0, 0, 0)},
		{[]api.Protest{protest(1, 2, 1, 2, 92700)}, ints(0), lists(nil, ints(2)), 100, 0, ints(0, 0, 0)},
		{[]api.Protest{protest(1, 2, 1, 0, 40000), protest(3, 1, 0, 0, 72701), protest(4, 1, 0, 0, 73700), protest(6, 1, 1, 0, 75001), protest(7, 2, 1, 3, 40000), protest(8, 2, 1, 2, 40000)}, ints(1, 2, 5), lists(ints(0, 1), ints(1, 2)), 300, 300, ints(0, -100, -200)},
		{[]api.Protest{protest(1, 0, 0, 0, 20000), protest(2, 0, 0, 0, 20000), protest(3, 0, 0, 3, 20000)}, ints(0, 1), lists(ints(0, 1), ints(1)), 200, 100, ints(-100, 0, 0)},
	} {
		j.Protests = x.protests
		s := told(t, j)
		if !slices.Equal(s.grants, x.grants) || fmt.Sprint(s.repeats) != fmt.Sprint(x.repeats) || s.back != x.back || s.kept != x.kept || !slices.Equal(s.purses, x.purses) {
			t.Error(i, s)
		}
	}
}

// P7.1 to P7.4: juries that are thrown, by all truths of their rides.
func TestSmallJuriesWordForWord(t *testing.T) {
	wordForWord(t, newDice(1), small(), byTruths, 1200)
}

// P7.1 to P7.4: great juries that are thrown, by what layer 5 tells of their rides.
func TestGreatJuriesWordForWord(t *testing.T) {
	wordForWord(t, newDice(2), great(), byBeams, 1200)
}

// wordForWord compares what is told of juries with what the chapter says, and looks whether all sorts of results have been seen.
func wordForWord(t *testing.T, d dice, s size, by teller, count int) {
	t.Helper()
	touches, late, repeats := map[[2]uint8]int{}, map[uint8]int{}, map[int]int{}
	for range count {
		j := d.jury(s)
		want := storyOf(j.Jury, by)
		if got := told(t, j.Jury); !equal(got, want) {
			t.Error(j, got, want)
		}
		for i, f := range j.Faults {
			for _, at := range j.rides {
				touches[[2]uint8{f.Kind, want.touch[i][at[0]][at[1]]}]++
			}
		}
		for _, k := range want.late {
			late[k]++
		}
		repeats[min(4, len(slices.Concat(want.repeats...)))]++
	}
	for kind := range uint8(3) {
		for known := range uint8(3) {
			if n := touches[[2]uint8{kind + 1, known}]; n < 80 {
				t.Error("too few of a sort:", kind+1, known, n)
			}
		}
	}
	if min(late[0], late[1], late[2], repeats[0], repeats[1], repeats[2], repeats[3]) < 60 {
		t.Error("too few of a sort:", late, repeats)
	}
}

// P7.4: a descent that is repeated may be any one that is valid.
func TestReplaceByKinds(t *testing.T) {
	other := ride(30000, 40000, sig(0, 30600), sig(1, 32600))
	for i, x := range []struct {
		d  api.Descent
		ok bool
	}{
		{down(), true}, {other, true}, {out(), true}, {fixed(1, 1), true}, {fixed(1, api.MaxTime), true}, {fixed(2600, 2602), true}, {api.Descent{Out: true, Ride: api.Ride{Signals: []api.Signal{}}}, true},
		{api.Descent{}, false}, {fixed(0, 1), false}, {fixed(5, 4), false}, {fixed(1, api.MaxTime+1), false}, {api.Descent{Out: true, Fixed: true}, false}, {api.Descent{Time: span(1, 1)}, false}, {ride(30000, 29999), false}, {ride(30000, 30001, sig(0, 30600)), false}, {ride(30000, 40000, sig(1, 32600), sig(0, 30600)), false}, {ride(30000, 40000, sig(3, 32600)), false}, {ride(-1, 40000, sig(0, 30600), sig(1, 32600)), false}, {ride(30000, api.MaxClock+1, sig(0, 30600), sig(1, 32600)), false},
	} {
		r, e := jury.Replace(winter(), 0, 0, x.d)
		want, f := winter().Race, api.OK
		want.Heats[0][0] = x.d
		if !x.ok {
			want, f = api.Race{}, api.ErrRace
		}
		if fmt.Sprint(r) != fmt.Sprint(want) || e != f || x.ok && race.Check(r) != api.OK {
			t.Error(i, r, e)
		}
	}
}

// P7.4: just what is repeated is replaced, by whatever is valid then.
func TestReplaceWordForWord(t *testing.T) {
	d := newDice(3)
	replaced, bad, wrong := 0, 0, 0
	for range 400 {
		s := []size{small(), great()}[d.IntN(2)]
		j := d.jury(s)
		repeats := told(t, j.Jury).repeats
		for heat, descents := range j.Race.Heats {
			for sled := range descents {
				x := []api.Descent{out(), fixed(3, 4), fixed(4, 3), {}, {Out: true, Fixed: true}}[d.IntN(5)]
				if d.from(0, 1) == 0 {
					x.Out, x.Fixed, x.Time = false, false, api.Span{}
					x.Ride, _ = d.ride(s, j.Race.Line, j.clocks)
				}
				want, f := j.Race, api.OK
				want.Heats = slices.Clone(j.Race.Heats)
				want.Heats[heat] = slices.Clone(descents)
				want.Heats[heat][sled] = x
				switch {
				case !slices.Contains(repeats[heat], sled):
					want, f = api.Race{}, api.ErrBad
					bad++
				case race.Check(want) != api.OK:
					want, f = api.Race{}, api.ErrRace
					wrong++
				default:
					replaced++
				}
				if r, e := jury.Replace(j.Jury, heat, sled, x); fmt.Sprint(r) != fmt.Sprint(want) || e != f {
					t.Error(j, heat, sled, x, r, e, f)
				}
			}
		}
	}
	if replaced < 200 || bad < 200 || wrong < 100 {
		t.Error("too few of a sort:", replaced, bad, wrong)
	}
}
