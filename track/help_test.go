package track_test

import (
	"slices"
	"testing"

	"kreisel/api"
	"kreisel/track"
)

func span(lo, hi int) api.Span { return api.Span{Lo: lo, Hi: hi} }

func spot(stretch, lo, hi int) api.Spot { return api.Spot{Stretch: stretch, Off: span(lo, hi)} }

func long(from, to, lo, hi int) api.Measure {
	return api.Measure{Kind: api.MeasureLong, From: from, To: to, Value: span(lo, hi)}
}

func fall(from, to, lo, hi int) api.Measure {
	return api.Measure{Kind: api.MeasureFall, From: from, To: to, Value: span(lo, hi)}
}

func straight(id int, long, fall api.Span) api.Stretch {
	return api.Stretch{Id: id, Long: long, Fall: fall}
}

func tracked(list ...api.Stretch) api.Track { return api.Track{Stretches: list} }

// chapter returns the track of the chapter's examples.
func chapter() api.Track {
	return tracked(
		api.Stretch{Id: 3, Long: span(4000, 4100), Fall: span(400, 420), Wall: 100},
		api.Stretch{Id: 5, Long: span(2000, 2200), Fall: span(150, 160), Side: api.SideLeft, Radius: span(1500, 1600), Wall: 900},
		api.Stretch{Id: 8, Long: span(3000, 3000), Fall: span(300, 330)},
	)
}

// equalRun returns a track of n stretches that are all alike, with Ids from first on.
func equalRun(n, first int, long, fall api.Span) api.Track {
	var t api.Track
	for i := range n {
		t.Stretches = append(t.Stretches, straight(first+i, long, fall))
	}
	return t
}

func longs(t api.Track) []api.Span {
	var list []api.Span
	for _, s := range t.Stretches {
		list = append(list, s.Long)
	}
	return list
}

func falls(t api.Track) []api.Span {
	var list []api.Span
	for _, s := range t.Stretches {
		list = append(list, s.Fall)
	}
	return list
}

func sameTrack(a, b api.Track) bool { return slices.Equal(a.Stretches, b.Stretches) }

// without returns a list without one of its things.
func without[T any](list []T, i int) []T { return slices.Concat(list[:i], list[i+1:]) }

// dice throw numbers that are the same in each run of the tests.
type dice uint64

func (d *dice) from(lo, hi int) int {
	*d = *d*6364136223846793005 + 1442695040888963407
	return lo + int(uint64(*d)>>33)%(hi-lo+1)
}

// span throws a span with ends from lo to hi that is at most wide.
func (d *dice) span(lo, hi, wide int) api.Span {
	l := d.from(lo, hi)
	return span(l, min(hi, l+d.from(0, wide)))
}

// track throws a valid track of small numbers, so that all of its truths can be gone through.
func (d *dice) track(most int) api.Track {
	var t api.Track
	id := 0
	for range d.from(1, most) {
		id += d.from(1, 3)
		s := straight(id, d.span(1, 7, 3), d.span(0, 5, 2))
		s.Wall = d.from(0, api.MaxWall)
		if d.from(0, 1) == 1 {
			s.Side = uint8(d.from(api.SideLeft, api.SideRight))
			s.Radius = d.span(api.MinRadius, api.MaxRadius, 1000)
		}
		t.Stretches = append(t.Stretches, s)
	}
	return t
}

// measures throws measures of a track; they may contradict each other.
func (d *dice) measures(t api.Track, most int) []api.Measure {
	var list []api.Measure
	for range d.from(0, most) {
		from := d.from(0, len(t.Stretches)-1)
		to := d.from(from+1, len(t.Stretches))
		kind, spans := uint8(api.MeasureLong), longs(t)
		if d.from(0, 2) == 0 {
			kind, spans = api.MeasureFall, falls(t)
		}
		lo, hi := 0, 0
		for _, s := range spans[from:to] {
			lo, hi = lo+s.Lo, hi+s.Hi
		}
		list = append(list, api.Measure{Kind: kind, From: from, To: to, Value: d.span(max(0, lo-1), hi+1, 3)})
	}
	return list
}

// spot throws a valid spot of a track.
func (d *dice) spot(t api.Track) api.Spot {
	i := d.from(0, len(t.Stretches)-1)
	return api.Spot{Stretch: i, Off: d.span(0, t.Stretches[i].Long.Lo-1, 2)}
}

// truths goes through all choices of a number of each span.
func truths(spans []api.Span, do func(numbers []int)) {
	numbers := make([]int, len(spans))
	var choose func(i int)
	choose = func(i int) {
		if i == len(spans) {
			do(numbers)
			return
		}
		for n := spans[i].Lo; n <= spans[i].Hi; n++ {
			numbers[i] = n
			choose(i + 1)
		}
	}
	choose(0)
}

func sum(numbers []int) int {
	all := 0
	for _, n := range numbers {
		all += n
	}
	return all
}

// hull is the least span that has all numbers put into it.
type hull struct {
	span api.Span
	any  bool
}

func (h *hull) put(n int) {
	if !h.any {
		h.span, h.any = span(n, n), true
	}
	h.span = span(min(h.span.Lo, n), max(h.span.Hi, n))
}

// narrowed returns what measures of a kind leave of spans, by going through all truths; it is empty if there is none.
func narrowed(spans []api.Span, kind uint8, m []api.Measure) []api.Span {
	hulls := make([]hull, len(spans))
	truths(spans, func(numbers []int) {
		for _, x := range m {
			if n := sum(numbers[x.From:min(x.To, len(numbers))]); x.Kind == kind && (n < x.Value.Lo || n > x.Value.Hi) {
				return
			}
		}
		for i, n := range numbers {
			hulls[i].put(n)
		}
	})
	var left []api.Span
	for _, h := range hulls {
		if h.any {
			left = append(left, h.span)
		}
	}
	return left
}

// narrowedTrack returns what measures leave of a track, by going through all truths.
func narrowedTrack(t api.Track, m []api.Measure) (api.Track, api.Errno) {
	l, f := narrowed(longs(t), api.MeasureLong, m), narrowed(falls(t), api.MeasureFall, m)
	if len(l) == 0 || len(f) == 0 {
		return api.Track{}, api.ErrBad
	}
	left := tracked(slices.Clone(t.Stretches)...)
	for i := range left.Stretches {
		left.Stretches[i].Long, left.Stretches[i].Fall = l[i], f[i]
	}
	return left, api.OK
}

func mustNarrow(t *testing.T, r api.Track, m []api.Measure) api.Track {
	t.Helper()
	n, e := track.Narrow(r, m)
	if e != api.OK {
		t.Fatal("Narrow:", r, m, e)
	}
	return n
}

func mustMarks(t *testing.T, r api.Track) []api.Span {
	t.Helper()
	m, e := track.Marks(r)
	if e != api.OK {
		t.Fatal("Marks:", r, e)
	}
	return m
}

func mustApart(t *testing.T, r api.Track, a, b api.Spot) api.Span {
	t.Helper()
	s, e := track.Apart(r, a, b)
	if e != api.OK {
		t.Fatal("Apart:", r, a, b, e)
	}
	return s
}
