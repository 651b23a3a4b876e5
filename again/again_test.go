package again_test

import (
	"fmt"
	"testing"

	"kreisel/again"
	"kreisel/api"
)

func line() api.Line {
	return api.Line{
		Track: api.Track{Stretches: []api.Stretch{{Id: 1, Wall: 2}, {Id: 3}}}, Fast: 4,
		Clocks: []api.Clock{{Drift: 5, Syncs: []api.Sync{{At: 6}, {At: 7}}}, {Syncs: []api.Sync{{At: 8}}}},
		Beams:  []api.Beam{{Clock: 9}, {Clock: 10}}, Finish: 11, Fakes: 12, Misses: 13,
	}
}

// A line is the same again, and what is written to it, or behind its ends, is not in the first one.
func TestLine(t *testing.T) {
	l := line()
	stretches, clocks, beams, syncs := l.Track.Stretches, l.Clocks, l.Beams, l.Clocks[0].Syncs
	l.Track.Stretches, l.Clocks, l.Beams, l.Clocks[0].Syncs = stretches[:1], clocks[:1], beams[:1], syncs[:1]
	x := again.Line(l)
	if fmt.Sprint(x) != fmt.Sprint(l) {
		t.Error(x)
	}
	x.Clocks[0].Syncs[0].At = 0
	_ = append(x.Clocks[0].Syncs, api.Sync{})
	x.Track.Stretches[0], x.Clocks[0], x.Beams[0] = api.Stretch{}, api.Clock{}, api.Beam{}
	_, _, _ = append(x.Track.Stretches, api.Stretch{}), append(x.Clocks, api.Clock{}), append(x.Beams, api.Beam{})
	l.Track.Stretches, l.Clocks, l.Beams, l.Clocks[0].Syncs = stretches, clocks, beams, syncs
	if fmt.Sprint(l) != fmt.Sprint(line()) {
		t.Error(l)
	}
}

// A ride is the same again, and what is written to it, or behind its end, is not in the first one.
func TestRide(t *testing.T) {
	signals := []api.Signal{{Beam: 1, Read: 2}, {Beam: 3, Read: 4}}
	r := api.Ride{Start: 5, Now: 6, Signals: signals[:1]}
	x := again.Ride(r)
	if fmt.Sprint(x) != fmt.Sprint(r) {
		t.Error(x)
	}
	x.Signals[0].Read = 0
	_ = append(x.Signals, api.Signal{})
	if fmt.Sprint(signals) != "[{1 2} {3 4}]" {
		t.Error(signals)
	}
}

// What has nothing has nothing again.
func TestNothing(t *testing.T) {
	if l, r := again.Line(api.Line{}), again.Ride(api.Ride{}); fmt.Sprint(l, r) != fmt.Sprint(api.Line{}, api.Ride{}) {
		t.Error(l, r)
	}
}
