package track_test

import (
	"slices"
	"testing"

	"kreisel/api"
	"kreisel/track"
)

func TestExamples(t *testing.T) {
	m, e := track.Marks(chapter())
	if !slices.Equal(m, []api.Span{span(0, 0), span(4000, 4100), span(6000, 6300), span(9000, 9300)}) || e != api.OK {
		t.Error("Marks:", m, e)
	}
	l, f, e := track.Drop(chapter(), 1, 3)
	if l != span(5000, 5200) || f != span(450, 490) || e != api.OK {
		t.Error("Drop:", l, f, e)
	}
	for at, want := range map[int][]int{4050: {0, 1}, 6100: {1, 2}, 9100: {2, 3}} {
		if p, e := track.Place(chapter(), at); !slices.Equal(p, want) || e != api.OK {
			t.Error("Place:", at, p, e)
		}
	}
	if s, e := track.Slope(chapter(), 1); s != span(68, 80) || e != api.OK {
		t.Error("Slope:", s, e)
	}
	if s, e := track.Steepest(chapter()); !slices.Equal(s, []int{0, 2}) || e != api.OK {
		t.Error("Steepest:", s, e)
	}
	if s, e := track.At(chapter(), spot(1, 100, 110)); s != span(4100, 4210) || e != api.OK {
		t.Error("At:", s, e)
	}
	if s, e := track.Apart(chapter(), spot(0, 50, 50), spot(1, 100, 110)); s != span(4050, 4160) || e != api.OK {
		t.Error("Apart:", s, e)
	}
}

func TestExamplesOfMeasures(t *testing.T) {
	one := []api.Measure{long(0, 2, 6250, 6400)}
	two := append(one, long(0, 1, 4100, 4200))
	for i, x := range []struct {
		m     []api.Measure
		longs []api.Span
	}{
		{one, []api.Span{span(4050, 4100), span(2150, 2200), span(3000, 3000)}},
		{two, []api.Span{span(4100, 4100), span(2150, 2200), span(3000, 3000)}},
	} {
		want := chapter()
		for k := range want.Stretches {
			want.Stretches[k].Long = x.longs[k]
		}
		if n, e := track.Narrow(chapter(), x.m); !sameTrack(n, want) || e != api.OK {
			t.Error("Narrow:", i, n, e)
		}
		if u, e := track.Useless(chapter(), x.m); len(u) != 0 || e != api.OK {
			t.Error("Useless:", i, u, e)
		}
	}
}

func TestMarksAndDropOfAnyTruth(t *testing.T) {
	d := dice(11)
	for range 200 {
		r := d.track(4)
		n := len(r.Stretches)
		marks := make([]hull, n+1)
		truths(longs(r), func(numbers []int) {
			for i := range marks {
				marks[i].put(sum(numbers[:i]))
			}
		})
		m, e := track.Marks(r)
		if len(m) != n+1 || e != api.OK {
			t.Fatal(r, m, e)
		}
		for i, h := range marks {
			if m[i] != h.span {
				t.Error(r, i, m[i], h.span)
			}
		}
		from := d.from(0, n)
		to := d.from(from, n)
		var l, f hull
		truths(longs(r), func(numbers []int) { l.put(sum(numbers[from:to])) })
		truths(falls(r), func(numbers []int) { f.put(sum(numbers[from:to])) })
		if a, b, e := track.Drop(r, from, to); a != l.span || b != f.span || e != api.OK {
			t.Error(r, from, to, a, b, e)
		}
	}
}

func TestDropNeedsMarksInOrder(t *testing.T) {
	for i, x := range []struct {
		from, to int
		e        api.Errno
	}{
		{0, 0, api.OK}, {0, 3, api.OK}, {3, 3, api.OK},
		{-1, 3, api.ErrArg}, {0, 4, api.ErrArg}, {4, 4, api.ErrArg}, {-1, -1, api.ErrArg}, {2, 1, api.ErrArg}, {3, 0, api.ErrArg},
	} {
		l, f, e := track.Drop(chapter(), x.from, x.to)
		if e != x.e || (e != api.OK || x.from == x.to) && (l != span(0, 0) || f != span(0, 0)) {
			t.Error(i, l, f, e)
		}
	}
}

func TestPlaceAtEnds(t *testing.T) {
	full := equalRun(api.MaxStretches, 0, span(api.MaxLong, api.MaxLong), span(0, 0))
	for i, x := range []struct {
		r    api.Track
		at   int
		want []int
		e    api.Errno
	}{
		{chapter(), 0, []int{0}, api.OK}, {chapter(), 3999, []int{0}, api.OK}, {chapter(), 4000, []int{0, 1}, api.OK}, {chapter(), 4099, []int{0, 1}, api.OK}, {chapter(), 4100, []int{1}, api.OK},
		{chapter(), 8999, []int{2}, api.OK}, {chapter(), 9000, []int{2, 3}, api.OK}, {chapter(), 9299, []int{2, 3}, api.OK}, {chapter(), 9300, []int{3}, api.OK},
		{chapter(), api.MaxRun, []int{3}, api.OK}, {chapter(), api.MaxRun + 1, nil, api.ErrArg}, {chapter(), -1, nil, api.ErrArg},
		{full, 29999, []int{0}, api.OK}, {full, 30000, []int{1}, api.OK}, {full, api.MaxRun - 1, []int{11}, api.OK}, {full, api.MaxRun, []int{12}, api.OK},
	} {
		if p, e := track.Place(x.r, x.at); !slices.Equal(p, x.want) || e != x.e {
			t.Error(i, p, e)
		}
	}
}

func TestSlope(t *testing.T) {
	r := tracked(
		straight(1, span(1, 30000), span(0, 5000)),
		straight(2, span(7, 9), span(3, 4)),
		straight(3, span(1000, 1000), span(17, 17)),
		straight(4, span(3, 3), span(1, 1)),
		straight(5, span(30000, 30000), span(0, 1)),
	)
	for i, want := range []api.Span{span(0, 5000000), span(333, 572), span(17, 17), span(333, 334), span(0, 1)} {
		if s, e := track.Slope(r, i); s != want || e != api.OK {
			t.Error(i, s, e)
		}
	}
	for _, i := range []int{-1, 5, 12} {
		if s, e := track.Slope(r, i); s != span(0, 0) || e != api.ErrArg {
			t.Error(i, s, e)
		}
	}
}

func TestSteepestTiesAreSteepest(t *testing.T) {
	for i, x := range []struct {
		r    api.Track
		want []int
	}{
		{equalRun(12, 0, span(30000, 30000), span(5000, 5000)), []int{0, 1, 2, 3, 4, 5, 6, 7, 8, 9, 10, 11}},
		{equalRun(3, 0, span(5, 9), span(0, 0)), []int{0, 1, 2}},
		{tracked(straight(1, span(2, 2), span(1, 1)), straight(2, span(4, 4), span(2, 2))), []int{0, 1}},
		{tracked(straight(1, span(2, 2), span(1, 1)), straight(2, span(5, 5), span(2, 2))), []int{0}},
		// Slopes of both are 333 to 334, but they are not the same.
		{tracked(straight(1, span(3000, 3000), span(1000, 1000)), straight(2, span(3000, 3000), span(1001, 1001))), []int{1}},
		// The least one of the first is as the greatest one of the second.
		{tracked(straight(1, span(2, 4), span(2, 3)), straight(2, span(4, 8), span(1, 2))), []int{0, 1}},
		{tracked(straight(1, span(2, 4), span(2, 3)), straight(2, span(5, 8), span(1, 2))), []int{0}},
	} {
		if s, e := track.Steepest(x.r); !slices.Equal(s, x.want) || e != api.OK {
			t.Error(i, s, e)
		}
	}
}

func TestSteepestOfAnyTruth(t *testing.T) {
	d := dice(13)
	for range 200 {
		r := d.track(3)
		may := map[int]bool{}
		truths(longs(r), func(l []int) {
			truths(falls(r), func(f []int) {
				for i := range l {
					steepest := true
					for k := range l {
						steepest = steepest && f[i]*l[k] >= f[k]*l[i]
					}
					may[i] = may[i] || steepest
				}
			})
		})
		var want []int
		for i := range r.Stretches {
			if may[i] {
				want = append(want, i)
			}
		}
		if s, e := track.Steepest(r); !slices.Equal(s, want) || e != api.OK {
			t.Error(r, s, e, want)
		}
	}
}

func TestAtAndApart(t *testing.T) {
	r := chapter()
	for i, x := range []struct {
		a, b api.Spot
		at   api.Span
		way  api.Span
	}{
		{spot(0, 0, 0), spot(0, 0, 0), span(0, 0), span(0, 0)},
		// Two things stand there, each one anywhere from 5 to 9.
		{spot(0, 5, 9), spot(0, 5, 9), span(5, 9), span(-4, 4)},
		{spot(2, 0, 0), spot(2, 2999, 2999), span(6000, 6300), span(2999, 2999)},
		{spot(2, 2999, 2999), spot(0, 0, 3999), span(8999, 9299), span(-9299, -5000)},
		{spot(0, 0, 3999), spot(1, 0, 1999), span(0, 3999), span(1, 6099)},
		{spot(1, 10, 20), spot(2, 1, 2), span(4010, 4120), span(1981, 2192)},
	} {
		if s, e := track.At(r, x.a); s != x.at || e != api.OK {
			t.Error(i, s, e)
		}
		if s, e := track.Apart(r, x.a, x.b); s != x.way || e != api.OK {
			t.Error(i, s, e)
		}
	}
}

func TestAtAndApartOfAnyTruth(t *testing.T) {
	d := dice(17)
	for range 200 {
		r := d.track(4)
		a, b := d.spot(r), d.spot(r)
		var at, way hull
		truths(append(longs(r), a.Off, b.Off), func(n []int) {
			first := sum(n[:a.Stretch]) + n[len(n)-2]
			at.put(first)
			way.put(sum(n[:b.Stretch]) + n[len(n)-1] - first)
		})
		if s, e := track.At(r, a); s != at.span || e != api.OK {
			t.Error(r, a, s, e)
		}
		if s, e := track.Apart(r, a, b); s != way.span || e != api.OK {
			t.Error(r, a, b, s, e)
		}
	}
}

func TestSpotsThatAreNotValid(t *testing.T) {
	good := spot(1, 0, 1999)
	for i, bad := range []api.Spot{
		spot(-1, 0, 0), spot(3, 0, 0), spot(12, 0, 0), spot(1, -1, 0), spot(1, 0, 2000), spot(1, 1999, 2000), spot(1, 2000, 2000), spot(1, 5, 4), spot(1, -5, -4), spot(2, 0, 3000),
	} {
		if s, e := track.At(chapter(), bad); s != span(0, 0) || e != api.ErrSpot {
			t.Error(i, s, e)
		}
		for _, pair := range [][2]api.Spot{{good, bad}, {bad, good}, {bad, bad}} {
			if s, e := track.Apart(chapter(), pair[0], pair[1]); s != span(0, 0) || e != api.ErrSpot {
				t.Error(i, pair, s, e)
			}
		}
	}
	if _, e := track.Apart(chapter(), good, good); e != api.OK {
		t.Error(e)
	}
}

func TestJoin(t *testing.T) {
	flat := func(n, first int) api.Track { return equalRun(n, first, span(1, 2), span(0, 0)) }
	for i, x := range []struct {
		a, b api.Track
		e    api.Errno
	}{
		{chapter(), flat(9, 9), api.OK}, {flat(11, 0), flat(1, 11), api.OK}, {flat(1, 0), flat(1, api.MaxId), api.OK},
		{chapter(), flat(1, 8), api.ErrBad}, {chapter(), flat(2, 7), api.ErrBad}, {chapter(), flat(1, 0), api.ErrBad}, {chapter(), chapter(), api.ErrBad}, {flat(3, 9), chapter(), api.ErrBad},
		// The first Id of b is above some of a's only.
		{chapter(), tracked(straight(4, span(1, 1), span(0, 0)), straight(9, span(1, 1), span(0, 0))), api.ErrBad},
		{chapter(), flat(10, 9), api.ErrFull}, {flat(12, 0), flat(1, 12), api.ErrFull}, {flat(12, 0), flat(12, 12), api.ErrFull}, {flat(12, 0), flat(12, 0), api.ErrFull},
		{api.Track{}, chapter(), api.ErrTrack}, {chapter(), api.Track{}, api.ErrTrack}, {flat(12, 0), flat(13, 12), api.ErrTrack}, {flat(13, 0), flat(1, 0), api.ErrTrack}, {chapter(), flat(2, api.MaxId), api.ErrTrack},
	} {
		var want []api.Stretch
		if x.e == api.OK {
			want = slices.Concat(x.a.Stretches, x.b.Stretches)
		}
		if r, e := track.Join(x.a, x.b); e != x.e || !slices.Equal(r.Stretches, want) {
			t.Error(i, r, e)
		}
	}
}
