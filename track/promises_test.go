package track_test

import (
	"math"
	"slices"
	"testing"

	"kreisel/api"
	"kreisel/track"
)

// P1.7: whatever is true is within what is told, and both ends come about. (That nothing more is told is tested with each call.)
func TestBothEndsComeAbout(t *testing.T) {
	d := dice(31)
	for range 200 {
		r := d.track(12)
		least, most := tracked(slices.Clone(r.Stretches)...), tracked(slices.Clone(r.Stretches)...)
		for i := range r.Stretches {
			s := r.Stretches[i]
			least.Stretches[i].Long, least.Stretches[i].Fall = span(s.Long.Lo, s.Long.Lo), span(s.Fall.Lo, s.Fall.Lo)
			most.Stretches[i].Long, most.Stretches[i].Fall = span(s.Long.Hi, s.Long.Hi), span(s.Fall.Hi, s.Fall.Hi)
		}
		marks, lows, highs := mustMarks(t, r), mustMarks(t, least), mustMarks(t, most)
		for i := range marks {
			if lows[i] != span(marks[i].Lo, marks[i].Lo) || highs[i] != span(marks[i].Hi, marks[i].Hi) {
				t.Error(r, i, marks[i], lows[i], highs[i])
			}
		}
		n := len(r.Stretches)
		l, f, _ := track.Drop(r, 0, n)
		a, b, _ := track.Drop(least, 0, n)
		c, e, _ := track.Drop(most, 0, n)
		if l != span(a.Lo, c.Lo) || f != span(b.Lo, e.Lo) || l != marks[n] {
			t.Error(r, l, f, a, b, c, e)
		}
	}
}

// P1.2, P1.10: a place is told where it may be, and nowhere else.
func TestPlaceOfAnyTruth(t *testing.T) {
	d := dice(37)
	for range 200 {
		r := d.track(4)
		n := len(r.Stretches)
		for at := range mustMarks(t, r)[n].Hi + 2 {
			may := map[int]bool{}
			truths(longs(r), func(numbers []int) {
				i := 0
				for i < n && sum(numbers[:i+1]) <= at {
					i++
				}
				may[i] = true
			})
			var want []int
			for i := range n + 1 {
				if may[i] {
					want = append(want, i)
				}
			}
			if p, e := track.Place(r, at); !slices.Equal(p, want) || e != api.OK {
				t.Fatal(r, at, p, e, want)
			}
		}
	}
}

// P1.11: it is as far the other way round, and over a third spot anything that is told is possible.
func TestApartTheOtherWayAndOverAThirdSpot(t *testing.T) {
	d := dice(41)
	for range 1000 {
		r := d.track(12)
		a, b, c := d.spot(r), d.spot(r), d.spot(r)
		way, back := mustApart(t, r, a, b), mustApart(t, r, b, a)
		if back != span(-way.Hi, -way.Lo) {
			t.Error(r, a, b, way, back)
		}
		there, on := mustApart(t, r, a, c), mustApart(t, r, c, b)
		if way.Lo < there.Lo+on.Lo || way.Hi > there.Hi+on.Hi {
			t.Error(r, a, b, c, way, there, on)
		}
		first, e := track.At(r, b)
		if from := mustApart(t, r, spot(0, 0, 0), b); from != first || e != api.OK {
			t.Error(r, b, from, first, e)
		}
	}
}

// P1.12: runs that are joined are as long as both, and measures of the first one narrow it as before.
func TestJoinedRuns(t *testing.T) {
	d := dice(43)
	for range 300 {
		a, b := d.track(6), d.track(6)
		for i := range b.Stretches {
			b.Stretches[i].Id += 100
		}
		both, e := track.Join(a, b)
		if e != api.OK || !slices.Equal(both.Stretches, slices.Concat(a.Stretches, b.Stretches)) {
			t.Fatal(a, b, both, e)
		}
		l, f, _ := track.Drop(a, 0, len(a.Stretches))
		m, g, _ := track.Drop(b, 0, len(b.Stretches))
		n, h, _ := track.Drop(both, 0, len(both.Stretches))
		if n != span(l.Lo+m.Lo, l.Hi+m.Hi) || h != span(f.Lo+g.Lo, f.Hi+g.Hi) {
			t.Error(a, b, n, h)
		}
		list := d.measures(a, 4)
		alone, e := track.Narrow(a, list)
		joined, x := track.Narrow(both, list)
		if e != x {
			t.Error(a, b, list, e, x)
		}
		if e == api.OK && !slices.Equal(joined.Stretches, slices.Concat(alone.Stretches, b.Stretches)) {
			t.Error(a, b, list, joined)
		}
	}
}

// P1.13: if a stretch is longer, marks behind it are as much farther, and no mark before it is.
func TestLongerStretchMovesMarksBehindIt(t *testing.T) {
	d := dice(47)
	for range 300 {
		r := d.track(12)
		i, more := d.from(0, len(r.Stretches)-1), d.from(1, 20000)
		longer := tracked(slices.Clone(r.Stretches)...)
		longer.Stretches[i].Long = span(r.Stretches[i].Long.Lo+more, r.Stretches[i].Long.Hi+more)
		before, after := mustMarks(t, r), mustMarks(t, longer)
		for k := range before {
			want := before[k]
			if k > i {
				want = span(want.Lo+more, want.Hi+more)
			}
			if after[k] != want {
				t.Error(r, i, more, k, before[k], after[k])
			}
		}
	}
}

// roomy returns a copy of a list with room behind its end, and what lies there, too.
func roomy[T any](list []T, room ...T) (short, whole []T) {
	whole = slices.Concat(list, room)
	return whole[:len(list)], whole
}

// R3: no argument is written to, nor the memory behind its end.
func TestNoArgumentIsWrittenTo(t *testing.T) {
	mark := straight(4444, span(44, 44), span(44, 44))
	list, whole := roomy(chapter().Stretches, mark, mark, mark)
	r := tracked(list...)
	m, measures := roomy([]api.Measure{long(0, 2, 6250, 6400), fall(0, 1, 400, 410), long(0, 2, 6250, 6400)}, fall(0, 3, 444, 444))
	keep, keepMeasures := slices.Clone(whole), slices.Clone(measures)
	track.Check(r)
	track.Marks(r)
	track.Drop(r, 0, 3)
	track.Place(r, 50)
	track.Slope(r, 1)
	track.Steepest(r)
	track.Narrow(r, m)
	track.Useless(r, m)
	track.At(r, spot(1, 5, 6))
	track.Apart(r, spot(1, 5, 6), spot(2, 5, 6))
	track.Join(r, equalRun(2, 20, span(1, 1), span(0, 0)))
	track.Join(equalRun(2, 0, span(1, 1), span(0, 0)), r)
	if !slices.Equal(whole, keep) || !slices.Equal(measures, keepMeasures) {
		t.Error(whole, measures)
	}
}

// R3: a result shares no memory with an argument.
func TestResultsAreNewMemory(t *testing.T) {
	a, b := chapter(), equalRun(2, 20, span(1, 1), span(0, 0))
	for i, m := range [][]api.Measure{nil, {long(0, 2, 0, api.MaxRun)}, {long(0, 2, 6250, 6400)}} {
		n := mustNarrow(t, a, m)
		clear(n.Stretches[:cap(n.Stretches)])
		if !sameTrack(a, chapter()) {
			t.Error(i, a)
		}
	}
	j, e := track.Join(a, b)
	if e != api.OK {
		t.Fatal(e)
	}
	clear(j.Stretches[:cap(j.Stretches)])
	if !sameTrack(a, chapter()) || !sameTrack(b, equalRun(2, 20, span(1, 1), span(0, 0))) {
		t.Error(a, b)
	}
}

// R3: nothing is remembered from one call to another.
func TestCallsAreTheSameAgain(t *testing.T) {
	first := mustMarks(t, chapter())
	want := slices.Clone(first)
	clear(first)
	mustNarrow(t, chapter(), []api.Measure{long(0, 2, 6250, 6400)})
	track.Place(equalRun(12, 0, span(7, 9), span(0, 0)), 30)
	if again := mustMarks(t, chapter()); !slices.Equal(again, want) {
		t.Error(again)
	}
	if p, e := track.Place(chapter(), 30); !slices.Equal(p, []int{0}) || e != api.OK {
		t.Error(p, e)
	}
}

// R7: no call panics, whatever its arguments are.
func TestNoCallPanics(t *testing.T) {
	d := dice(53)
	ends := []int{math.MinInt, -1, 0, 1, 2, 3, 12, 500, 30000, 360000, math.MaxInt}
	pick := func() int { return ends[d.from(0, len(ends)-1)] }
	anySpan := func() api.Span { return span(pick(), pick()) }
	for range 3000 {
		r := d.track(12)
		m := d.measures(r, 13)
		if d.from(0, 2) == 0 {
			m = append(m, api.Measure{Kind: uint8(d.from(0, 3)), From: pick(), To: pick(), Value: anySpan()})
		}
		if d.from(0, 2) == 0 {
			i := d.from(0, len(r.Stretches)-1)
			r.Stretches[i] = api.Stretch{Id: pick(), Long: anySpan(), Fall: anySpan(), Radius: anySpan(), Side: uint8(d.from(0, 4)), Wall: pick()}
		}
		a, b := api.Spot{Stretch: pick(), Off: anySpan()}, api.Spot{Stretch: pick(), Off: anySpan()}
		track.Check(r)
		track.Marks(r)
		track.Drop(r, pick(), pick())
		track.Place(r, pick())
		track.Slope(r, pick())
		track.Steepest(r)
		track.Narrow(r, m)
		track.Useless(r, m)
		track.At(r, a)
		track.Apart(r, a, b)
		track.Join(r, d.track(12))
	}
}
