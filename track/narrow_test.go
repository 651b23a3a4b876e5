package track_test

import (
	"slices"
	"testing"

	"kreisel/api"
	"kreisel/track"
)

// noDifference returns the measures that make no difference, by going through all truths.
func noDifference(r api.Track, m []api.Measure) []int {
	all, _ := narrowedTrack(r, m)
	var list []int
	for i := range m {
		if rest, _ := narrowedTrack(r, without(m, i)); sameTrack(rest, all) {
			list = append(list, i)
		}
	}
	return list
}

// P1.4, P1.8: what measures leave is just what truths have that agree with them.
func TestNarrowAndUselessOfAnyTruth(t *testing.T) {
	d := dice(19)
	kept, refused, used := 0, 0, 0
	for range 1500 {
		r := d.track(4)
		m := d.measures(r, 4)
		want, e := narrowedTrack(r, m)
		n, f := track.Narrow(r, m)
		if e != f || !sameTrack(n, want) {
			t.Fatal("Narrow:", r, m, n, f, "instead of", want, e)
		}
		u, f := track.Useless(r, m)
		if e != f {
			t.Fatal("Useless:", r, m, u, f)
		}
		if e != api.OK {
			refused++
			if len(u) != 0 {
				t.Fatal("Useless:", r, m, u, f)
			}
			continue
		}
		kept++
		list := noDifference(r, m)
		if !slices.Equal(u, list) {
			t.Fatal("Useless:", r, m, u, "instead of", list)
		}
		if len(list) > 0 && len(list) < len(m) {
			used++
		}
	}
	if kept < 100 || refused < 100 || used < 100 {
		t.Error("too few of a kind:", kept, refused, used)
	}
}

// Measures that overlap hang together: one is felt only by way of all others.
func TestMeasuresThatHangTogether(t *testing.T) {
	r := equalRun(api.MaxStretches, 0, span(1, 30000), span(0, 5000))
	var m []api.Measure
	for i := range api.MaxStretches - 1 {
		m = append(m, long(i, i+2, 20000, 20000))
	}
	m = append(m, long(0, 1, 7000, 7000))
	for range 2 {
		n := mustNarrow(t, r, m)
		for i, s := range n.Stretches {
			want := []int{7000, 13000}[i%2]
			if s.Long != span(want, want) || s.Fall != span(0, 5000) {
				t.Error(i, s)
			}
		}
		slices.Reverse(m)
	}
	if u, e := track.Useless(r, m); len(u) != 0 || e != api.OK {
		t.Error(u, e)
	}
	// The last stretch would have to be 13,000.
	for _, last := range []api.Span{span(1, 12999), span(13001, 30000)} {
		r.Stretches[11].Long = last
		if n, e := track.Narrow(r, m); len(n.Stretches) != 0 || e != api.ErrBad {
			t.Error(last, n, e)
		}
	}
}

func TestMeasuresAtTheirLimits(t *testing.T) {
	full := equalRun(api.MaxStretches, 0, span(1, api.MaxLong), span(0, api.MaxFall))
	for i, x := range []struct {
		m          api.Measure
		long, fall api.Span
	}{
		{long(0, 12, api.MaxRun, api.MaxRun), span(30000, 30000), span(0, 5000)},
		{long(0, 12, api.MaxRun-3, api.MaxRun), span(29997, 30000), span(0, 5000)},
		{long(0, 12, 0, 12), span(1, 1), span(0, 5000)},
		{long(0, 12, 0, 15), span(1, 4), span(0, 5000)},
		{long(0, 12, 0, api.MaxRun), span(1, 30000), span(0, 5000)},
		{fall(0, 12, 0, 0), span(1, 30000), span(0, 0)},
		{fall(0, 12, 60000, api.MaxRun), span(1, 30000), span(5000, 5000)},
		{fall(0, 12, 0, 3), span(1, 30000), span(0, 3)},
	} {
		want := equalRun(api.MaxStretches, 0, x.long, x.fall)
		if n, e := track.Narrow(full, []api.Measure{x.m}); !sameTrack(n, want) || e != api.OK {
			t.Error(i, n, e)
		}
	}
	for i, m := range []api.Measure{long(0, 12, 0, 11), fall(0, 12, 60001, api.MaxRun)} {
		if n, e := track.Narrow(full, []api.Measure{m}); len(n.Stretches) != 0 || e != api.ErrBad {
			t.Error(i, n, e)
		}
	}
}

func TestErrorsOfMeasures(t *testing.T) {
	contradiction := []api.Measure{long(0, 1, 4000, 4000), long(0, 1, 4001, 4001)}
	for i, x := range []struct {
		m []api.Measure
		e api.Errno
	}{
		{nil, api.OK}, {[]api.Measure{}, api.OK},
		{slices.Repeat([]api.Measure{long(0, 3, 0, 9999)}, 12), api.OK}, {slices.Repeat([]api.Measure{long(0, 3, 0, 9999)}, 13), api.ErrMeasures},
		{[]api.Measure{long(0, 0, 0, 1)}, api.ErrMeasures}, {[]api.Measure{long(3, 3, 0, 1)}, api.ErrMeasures}, {[]api.Measure{long(2, 1, 0, 1)}, api.ErrMeasures}, {[]api.Measure{long(-1, 1, 0, 1)}, api.ErrMeasures}, {[]api.Measure{long(2, 4, 0, 1)}, api.ErrMeasures}, {[]api.Measure{long(3, 4, 0, 1)}, api.ErrMeasures},
		{[]api.Measure{long(0, 1, -1, 4000)}, api.ErrMeasures}, {[]api.Measure{long(0, 1, 0, api.MaxRun+1)}, api.ErrMeasures}, {[]api.Measure{long(0, 1, 4001, 4000)}, api.ErrMeasures},
		{[]api.Measure{{From: 0, To: 1, Value: span(0, 9)}}, api.ErrMeasures},
		{contradiction, api.ErrBad}, {[]api.Measure{long(0, 1, 0, 3999)}, api.ErrBad}, {[]api.Measure{long(0, 1, 4101, 9999)}, api.ErrBad}, {[]api.Measure{fall(0, 3, 0, 849)}, api.ErrBad}, {[]api.Measure{fall(0, 3, 911, 999)}, api.ErrBad}, {[]api.Measure{fall(0, 3, 850, 850), fall(1, 2, 151, 160)}, api.ErrBad},
		{append(slices.Clone(contradiction), long(0, 1, 9, 8)), api.ErrMeasures}, {slices.Repeat(contradiction, 7), api.ErrMeasures},
	} {
		n, e := track.Narrow(chapter(), x.m)
		u, f := track.Useless(chapter(), x.m)
		if e != x.e || f != x.e || e != api.OK && len(n.Stretches)+len(u) != 0 {
			t.Error(i, n, e, u, f)
		}
	}
}

// R4: a nil list and an empty one are the same; without measures all is left as it is.
func TestNoMeasures(t *testing.T) {
	for i, m := range [][]api.Measure{nil, {}} {
		n, e := track.Narrow(chapter(), m)
		u, f := track.Useless(chapter(), m)
		if !sameTrack(n, chapter()) || len(u) != 0 || e != api.OK || f != api.OK {
			t.Error(i, n, e, u, f)
		}
	}
}

func TestUselessMeasures(t *testing.T) {
	for i, x := range []struct {
		m    []api.Measure
		want []int
	}{
		{nil, nil},
		{[]api.Measure{long(0, 3, 0, api.MaxRun), long(0, 1, 4001, 4100), fall(0, 1, 400, 420)}, []int{0, 2}},
		// Each one alone may be left out, although both may not.
		{[]api.Measure{long(0, 1, 4010, 4020), fall(2, 3, 310, 320), long(0, 1, 4010, 4020), fall(2, 3, 310, 320)}, []int{0, 1, 2, 3}},
		// The wider one of two says nothing.
		{[]api.Measure{fall(2, 3, 309, 321), fall(2, 3, 310, 320)}, []int{0}},
		// The same numbers of the other kind do not make a measure useless.
		{[]api.Measure{fall(2, 3, 310, 310), long(0, 2, 6100, 6100), long(2, 3, 3000, 3000)}, []int{2}},
	} {
		if u, e := track.Useless(chapter(), x.m); !slices.Equal(u, x.want) || e != api.OK {
			t.Error(i, u, e)
		}
	}
}

// P1.9: with a measure more no span is wider.
func TestMoreMeasuresNarrowMore(t *testing.T) {
	inside := func(a, b api.Span) bool { return a.Lo >= b.Lo && a.Hi <= b.Hi }
	d := dice(23)
	for range 500 {
		r := d.track(5)
		m := d.measures(r, 5)
		before := r
		for i := range m {
			n, e := track.Narrow(r, m[:i+1])
			if e != api.OK {
				break
			}
			for k, s := range n.Stretches {
				if !inside(s.Long, before.Stretches[k].Long) || !inside(s.Fall, before.Stretches[k].Fall) {
					t.Fatal(r, m[:i+1], n)
				}
			}
			before = n
		}
	}
}

// P1.9: what was narrowed stays, in whatever order the measures are, and also without a useless one.
func TestNarrowedStays(t *testing.T) {
	d := dice(29)
	for range 500 {
		r := d.track(5)
		m := d.measures(r, 5)
		n, e := track.Narrow(r, m)
		for range 3 {
			for i := range m {
				k := d.from(0, i)
				m[i], m[k] = m[k], m[i]
			}
			if again, f := track.Narrow(r, m); f != e || !sameTrack(again, n) {
				t.Fatal("in another order:", r, m, again, f)
			}
		}
		if e != api.OK {
			continue
		}
		if again := mustNarrow(t, n, m); !sameTrack(again, n) {
			t.Fatal("narrowed again:", r, m, again)
		}
		u, _ := track.Useless(r, m)
		for _, i := range u {
			if again := mustNarrow(t, r, without(m, i)); !sameTrack(again, n) {
				t.Fatal("without a useless one:", r, m, i, again)
			}
		}
	}
}
