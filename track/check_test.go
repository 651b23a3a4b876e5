package track_test

import (
	"math"
	"testing"

	"kreisel/api"
	"kreisel/track"
)

// far are numbers that no field allows.
var far = []int{math.MinInt, math.MinInt + 1, math.MinInt32, -1, math.MaxInt32 + 1, math.MaxInt - 1, math.MaxInt}

// curve is a stretch that is valid as the second one of the chapter's track.
func curve(change func(s *api.Stretch)) api.Track {
	r := chapter()
	change(&r.Stretches[1])
	return r
}

func TestCheckOfNumbers(t *testing.T) {
	for i, x := range []struct {
		change func(s *api.Stretch)
		e      api.Errno
	}{
		{func(s *api.Stretch) {}, api.OK},
		{func(s *api.Stretch) { s.Id = 4 }, api.OK}, {func(s *api.Stretch) { s.Id = 7 }, api.OK}, {func(s *api.Stretch) { s.Id = 3 }, api.ErrTrack}, {func(s *api.Stretch) { s.Id = 8 }, api.ErrTrack}, {func(s *api.Stretch) { s.Id = 2 }, api.ErrTrack}, {func(s *api.Stretch) { s.Id = 9 }, api.ErrTrack},
		{func(s *api.Stretch) { s.Long = span(1, api.MaxLong) }, api.OK}, {func(s *api.Stretch) { s.Long = span(1, 1) }, api.OK}, {func(s *api.Stretch) { s.Long = span(0, 1) }, api.ErrTrack}, {func(s *api.Stretch) { s.Long = span(0, 0) }, api.ErrTrack}, {func(s *api.Stretch) { s.Long = span(1, api.MaxLong+1) }, api.ErrTrack}, {func(s *api.Stretch) { s.Long = span(2, 1) }, api.ErrTrack},
		{func(s *api.Stretch) { s.Fall = span(0, api.MaxFall) }, api.OK}, {func(s *api.Stretch) { s.Fall = span(0, 0) }, api.OK}, {func(s *api.Stretch) { s.Fall = span(-1, 0) }, api.ErrTrack}, {func(s *api.Stretch) { s.Fall = span(0, api.MaxFall+1) }, api.ErrTrack}, {func(s *api.Stretch) { s.Fall = span(2, 1) }, api.ErrTrack},
		{func(s *api.Stretch) { s.Wall = 0 }, api.OK}, {func(s *api.Stretch) { s.Wall = api.MaxWall }, api.OK}, {func(s *api.Stretch) { s.Wall = -1 }, api.ErrTrack}, {func(s *api.Stretch) { s.Wall = api.MaxWall + 1 }, api.ErrTrack},
		{func(s *api.Stretch) { s.Radius = span(api.MinRadius, api.MaxRadius) }, api.OK}, {func(s *api.Stretch) { s.Radius = span(api.MinRadius-1, 600) }, api.ErrTrack}, {func(s *api.Stretch) { s.Radius = span(600, api.MaxRadius+1) }, api.ErrTrack}, {func(s *api.Stretch) { s.Radius = span(601, 600) }, api.ErrTrack}, {func(s *api.Stretch) { s.Radius = span(0, 0) }, api.ErrTrack},
		{func(s *api.Stretch) { s.Side, s.Radius = api.SideNone, span(0, 1) }, api.ErrTrack}, {func(s *api.Stretch) { s.Side, s.Radius = api.SideNone, span(-1, 0) }, api.ErrTrack}, {func(s *api.Stretch) { s.Side, s.Radius = api.SideNone, span(0, 0) }, api.OK},
	} {
		if e := track.Check(curve(x.change)); e != x.e {
			t.Error(i, e)
		}
	}
}

func TestCheckOfEndsOfIds(t *testing.T) {
	for i, x := range []struct {
		ids []int
		e   api.Errno
	}{
		{[]int{0}, api.OK}, {[]int{api.MaxId}, api.OK}, {[]int{0, api.MaxId}, api.OK}, {[]int{-1}, api.ErrTrack}, {[]int{api.MaxId + 1}, api.ErrTrack}, {[]int{-1, 0}, api.ErrTrack}, {[]int{0, api.MaxId + 1}, api.ErrTrack}, {[]int{5, 5}, api.ErrTrack}, {[]int{5, 4}, api.ErrTrack}, {[]int{5, 6, 5}, api.ErrTrack},
	} {
		var r api.Track
		for _, id := range x.ids {
			r.Stretches = append(r.Stretches, straight(id, span(1, 1), span(0, 0)))
		}
		if e := track.Check(r); e != x.e {
			t.Error(i, e)
		}
	}
}

func TestCheckOfManyStretches(t *testing.T) {
	for n := range 20 {
		want := api.ErrTrack
		if n >= 1 && n <= api.MaxStretches {
			want = api.OK
		}
		if e := track.Check(equalRun(n, 7, span(1, 2), span(0, 1))); e != want {
			t.Error(n, e)
		}
	}
	if e := track.Check(tracked([]api.Stretch{}...)); e != api.ErrTrack {
		t.Error(e)
	}
}

func TestCheckFindsEachWrongStretch(t *testing.T) {
	for i := range api.MaxStretches {
		r := equalRun(api.MaxStretches, 7, span(1, 2), span(0, 1))
		r.Stretches[i].Wall = -1
		if e := track.Check(r); e != api.ErrTrack {
			t.Error(i, e)
		}
	}
}

// R6: sides and kinds that the chapter does not list are not valid.
func TestSidesAndKindsThatAreListed(t *testing.T) {
	for n := range 256 {
		listed := n == api.SideLeft || n == api.SideRight
		if e := track.Check(curve(func(s *api.Stretch) { s.Side = uint8(n) })); (e == api.OK) != listed {
			t.Error("a curve of side", n, e)
		}
		e := track.Check(curve(func(s *api.Stretch) { s.Side, s.Radius = uint8(n), span(0, 0) }))
		if (e == api.OK) != (n == api.SideNone) {
			t.Error("straight, of side", n, e)
		}
		listed = n == api.MeasureLong || n == api.MeasureFall
		m := []api.Measure{{Kind: uint8(n), From: 0, To: 3, Value: span(0, api.MaxRun)}}
		if _, e := track.Narrow(chapter(), m); listed && e != api.OK || !listed && e != api.ErrMeasures {
			t.Error("a measure of kind", n, e)
		}
	}
}

// R5: numbers of any size are seen to be outside.
func TestNumbersOfAnySize(t *testing.T) {
	for _, n := range far {
		for i, change := range []func(s *api.Stretch){
			func(s *api.Stretch) { s.Id = n },
			func(s *api.Stretch) { s.Wall = n },
			func(s *api.Stretch) { s.Long.Lo = n }, func(s *api.Stretch) { s.Long.Hi = n }, func(s *api.Stretch) { s.Long = span(n, n) },
			func(s *api.Stretch) { s.Fall.Lo = n }, func(s *api.Stretch) { s.Fall.Hi = n }, func(s *api.Stretch) { s.Fall = span(n, n) },
			func(s *api.Stretch) { s.Radius.Lo = n }, func(s *api.Stretch) { s.Radius.Hi = n }, func(s *api.Stretch) { s.Radius = span(n, n) },
			func(s *api.Stretch) { s.Side, s.Radius = api.SideNone, span(n, 0) }, func(s *api.Stretch) { s.Side, s.Radius = api.SideNone, span(0, n) },
		} {
			if e := track.Check(curve(change)); e != api.ErrTrack {
				t.Error(n, i, e)
			}
		}
		for i, m := range []api.Measure{
			long(n, 1, 0, 9), long(0, n, 0, 9), long(n, n, 0, 9), long(0, 1, n, 9), long(0, 1, 0, n), long(0, 1, n, n), fall(n, 1, 0, 9), fall(0, n, 0, 9), fall(0, 1, 0, n),
		} {
			if _, e := track.Narrow(chapter(), []api.Measure{m}); e != api.ErrMeasures {
				t.Error(n, i, e)
			}
		}
		for i, s := range []api.Spot{spot(n, 0, 0), spot(1, n, 0), spot(1, 0, n), spot(1, n, n)} {
			if _, e := track.At(chapter(), s); e != api.ErrSpot {
				t.Error(n, i, e)
			}
			if _, e := track.Apart(chapter(), s, spot(0, 0, 0)); e != api.ErrSpot {
				t.Error(n, i, e)
			}
		}
		_, e := track.Place(chapter(), n)
		_, f := track.Slope(chapter(), n)
		_, _, g := track.Drop(chapter(), n, 3)
		_, _, h := track.Drop(chapter(), 0, n)
		if e != api.ErrArg || f != api.ErrArg || g != api.ErrArg || h != api.ErrArg {
			t.Error(n, e, f, g, h)
		}
	}
}

// R1: the error of the track comes before any other one, and nothing else is returned with it.
func TestErrorOfTheTrackComesFirst(t *testing.T) {
	for i, r := range []api.Track{{}, curve(func(s *api.Stretch) { s.Id = 3 }), curve(func(s *api.Stretch) { s.Long = span(0, 1) }), equalRun(13, 0, span(1, 1), span(0, 0))} {
		errors := map[string]api.Errno{"Check": track.Check(r)}
		marks, e := track.Marks(r)
		errors["Marks"] = e
		l, f, e := track.Drop(r, 2, 1)
		errors["Drop"] = e
		place, e := track.Place(r, -1)
		errors["Place"] = e
		slope, e := track.Slope(r, -1)
		errors["Slope"] = e
		steepest, e := track.Steepest(r)
		errors["Steepest"] = e
		narrow, e := track.Narrow(r, []api.Measure{{}})
		errors["Narrow"] = e
		useless, e := track.Useless(r, []api.Measure{{}})
		errors["Useless"] = e
		at, e := track.At(r, spot(-1, 0, 0))
		errors["At"] = e
		apart, e := track.Apart(r, spot(-1, 0, 0), spot(99, 0, 0))
		errors["Apart"] = e
		first, e := track.Join(r, equalRun(12, 0, span(1, 1), span(0, 0)))
		errors["Join, first"] = e
		second, e := track.Join(equalRun(12, 0, span(1, 1), span(0, 0)), r)
		errors["Join, second"] = e
		for name, e := range errors {
			if e != api.ErrTrack {
				t.Error(i, name, e)
			}
		}
		if len(marks)+len(place)+len(steepest)+len(useless)+len(narrow.Stretches)+len(first.Stretches)+len(second.Stretches) != 0 {
			t.Error(i, "a list with an error")
		}
		if l != span(0, 0) || f != l || slope != l || at != l || apart != l {
			t.Error(i, "a span with an error")
		}
	}
}
