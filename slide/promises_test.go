package slide_test

import (
	"math"
	"slices"
	"testing"

	"kreisel/api"
	"kreisel/slide"
	"kreisel/track"
)

func inside(a, b api.Span) bool { return a.Lo >= b.Lo && a.Hi <= b.Hi }

// P3.7: if a sled is not safe, there is a truth that throws it in the curve that is named, as each number of it alone is one of its span.
func TestATruthThrowsInTheCurveThatIsNamed(t *testing.T) {
	d := newDice(17)
	named := 0
	for range 500 {
		r, s := d.track(api.MaxStretches), d.sled()
		c, v, e := slide.Names(r, s)
		if (e == api.ErrNone) != (mustSafe(t, r, s) == api.KnownYes) {
			t.Error(r, s, c, v, e)
		}
		if e != api.OK {
			continue
		}
		named++
		one, sled := api.Track{Stretches: slices.Clone(r.Stretches)}, s
		for i := range one.Stretches {
			x := &one.Stretches[i]
			x.Long.Hi, x.Fall.Lo, x.Radius.Hi = x.Long.Lo, x.Fall.Hi, x.Radius.Lo
		}
		sled.Start.Lo, sled.Rub.Hi, sled.Drag.Hi, sled.Weight.Lo, sled.Steer.Lo = s.Start.Hi, s.Rub.Lo, s.Drag.Lo, s.Weight.Hi, s.Steer.Hi
		if mustSafe(t, one, sled) != api.KnownNo {
			t.Error("no truth throws it:", r, s, c)
		}
		if h := mustHeight(t, one, sled, c); h.Lo != h.Hi || h.Lo <= r.Stretches[c].Wall {
			t.Error("it does not throw there:", r, s, c, h)
		}
		if top, f := slide.Speed(one, sled, c); f != api.OK || v > max(top.Hi, mustSpeed(t, one, sled, c+1).Hi) {
			t.Error("it is not as fast there:", r, s, c, v, top)
		}
	}
	if named < 200 {
		t.Error("too few sleds that are thrown:", named)
	}
}

// P3.8: with more weight, less friction, less drag, or a higher start, no head is less.
func TestFasterSleds(t *testing.T) {
	d := newDice(19)
	more := func(s api.Span, most int) api.Span {
		lo := d.from(s.Lo, most)
		return span(lo, d.from(max(lo, s.Hi), most))
	}
	less := func(s api.Span) api.Span {
		hi := d.from(0, s.Hi)
		return span(d.from(0, min(hi, s.Lo)), hi)
	}
	for range 500 {
		r, s := d.track(6), d.sled()
		before := mustHeads(t, r, s)
		for i, change := range []func(s *api.Sled){
			func(s *api.Sled) { s.Weight = more(s.Weight, api.MaxMass) },
			func(s *api.Sled) { s.Rub = less(s.Rub) },
			func(s *api.Sled) { s.Drag = less(s.Drag) },
			func(s *api.Sled) { s.Start = more(s.Start, 400) },
		} {
			other := s
			change(&other)
			for mark, h := range mustHeads(t, r, other) {
				if h.Lo < before[mark].Lo || h.Hi < before[mark].Hi {
					t.Error(i, r, s, other, mark, before[mark], h)
				}
			}
		}
	}
}

// wider returns ways to make a span of a sled, or of a stretch, wider.
func wider(d dice, r api.Track, s api.Sled) []func(t *api.Track, s *api.Sled) {
	i := d.from(0, len(r.Stretches)-1)
	widen := func(x *api.Span, lo, hi int) { *x = span(d.from(lo, x.Lo), d.from(x.Hi, hi)) }
	return []func(t *api.Track, s *api.Sled){
		func(t *api.Track, s *api.Sled) { widen(&s.Start, 0, 400) },
		func(t *api.Track, s *api.Sled) { widen(&s.Rub, 0, 5) },
		func(t *api.Track, s *api.Sled) { widen(&s.Drag, 0, api.MaxDrag) },
		func(t *api.Track, s *api.Sled) { widen(&s.Weight, api.MinMass, api.MaxMass) },
		func(t *api.Track, s *api.Sled) { widen(&s.Steer, -api.MaxSteer, api.MaxSteer) },
		func(t *api.Track, s *api.Sled) { widen(&t.Stretches[i].Long, 1, api.MaxLong) },
		func(t *api.Track, s *api.Sled) { widen(&t.Stretches[i].Fall, 0, 100) },
		func(t *api.Track, s *api.Sled) {
			if isCurve(t.Stretches[i]) {
				widen(&t.Stretches[i].Radius, api.MinRadius, api.MaxRadius)
			}
		},
	}
}

// P3.8: with a wider span no span is narrower, no least time longer, no wall lower, and nothing is known that was not.
func TestWiderSpans(t *testing.T) {
	d := newDice(23)
	for range 500 {
		r, s := d.track(6), d.sled()
		for i, change := range wider(d, r, s) {
			other, sled := api.Track{Stretches: slices.Clone(r.Stretches)}, s
			change(&other, &sled)
			for _, p := range noWider(t, r, s, other, sled) {
				t.Error(i, r, s, other, sled, p)
			}
			if before, after := mustSafe(t, r, s), mustSafe(t, other, sled); after != api.KnownOpen && after != before {
				t.Error("Safe:", i, r, s, other, sled, before, after)
			}
		}
	}
}

// noWider returns what of a sled on a track is wider than of another one on another track.
func noWider(t *testing.T, r api.Track, s api.Sled, other api.Track, sled api.Sled) []string {
	t.Helper()
	var wrong []string
	heads, around := mustHeads(t, r, s), mustHeads(t, other, sled)
	for mark := range heads {
		if !inside(heads[mark], around[mark]) {
			wrong = append(wrong, "Heads")
		}
		if !inside(mustSpeed(t, r, s, mark), mustSpeed(t, other, sled, mark)) {
			wrong = append(wrong, "Speed")
		}
	}
	walls, high := mustWalls(t, r, s), mustWalls(t, other, sled)
	for i, x := range r.Stretches {
		if isCurve(x) && !inside(mustHeight(t, r, s, i), mustHeight(t, other, sled, i)) {
			wrong = append(wrong, "Height")
		}
		if walls[i] > high[i] {
			wrong = append(wrong, "Walls")
		}
		n, e := slide.Least(r, s, i)
		m, f := slide.Least(other, sled, i)
		if e == api.OK && (f != api.OK || m > n) {
			wrong = append(wrong, "Least")
		}
	}
	return wrong
}

// P3.10: heads of a track that is joined are those of the first one, and of the second one from there on.
func TestARunGoesOn(t *testing.T) {
	d := newDice(29)
	for range 500 {
		a, b, s := d.track(6), d.track(6), d.sled()
		for i := range b.Stretches {
			b.Stretches[i].Id += 100
		}
		both, e := track.Join(a, b)
		if e != api.OK {
			t.Fatal(a, b, e)
		}
		first := mustHeads(t, a, s)
		rest := s
		rest.Start = first[len(first)-1]
		second := mustHeads(t, b, rest)
		if l := mustHeads(t, both, s); !slices.Equal(l, slices.Concat(first, second[1:])) {
			t.Error(a, b, s, l, first, second)
		}
		n := len(a.Stretches)
		for i, x := range b.Stretches {
			if isCurve(x) && mustHeight(t, both, s, n+i) != mustHeight(t, b, rest, i) {
				t.Error("Height:", a, b, s, i)
			}
		}
		if safe := mustSafe(t, both, s) == api.KnownYes; safe != (mustSafe(t, a, s) == api.KnownYes && mustSafe(t, b, rest) == api.KnownYes) {
			t.Error("Safe:", a, b, s)
		}
	}
}

// P3.11: with measures that narrow a track no head, and no height, gets a wider span.
func TestMeasuredRuns(t *testing.T) {
	d := newDice(31)
	narrower := 0
	for range 1000 {
		r, s := d.track(6), d.sled()
		from := d.from(0, len(r.Stretches)-1)
		m := api.Measure{Kind: api.MeasureLong, From: from, To: d.from(from+1, len(r.Stretches))}
		long, fall, _ := track.Drop(r, m.From, m.To)
		all := long
		if d.from(0, 1) == 0 {
			m.Kind, all = api.MeasureFall, fall
		}
		m.Value = d.span(all.Lo, all.Hi, (all.Hi-all.Lo)/2)
		n, e := track.Narrow(r, []api.Measure{m})
		if e != api.OK {
			t.Fatal(r, m, e)
		}
		for _, p := range noWider(t, n, s, r, s) {
			t.Error(r, s, m, p)
		}
		if !slices.Equal(mustHeads(t, n, s), mustHeads(t, r, s)) {
			narrower++
		}
	}
	if narrower < 200 {
		t.Error("too few measures that tell anything:", narrower)
	}
}

// steepest returns a track as long, and with as many and as steep stretches, as is allowed, all of them curves but the first one.
func steepest(long int) api.Track {
	var t api.Track
	for i := range api.MaxStretches {
		s := api.Stretch{Id: i, Long: span(long, long), Fall: span(api.MaxFall, api.MaxFall), Wall: api.MaxWall}
		if i > 0 {
			s.Side, s.Radius = api.SideLeft, span(api.MinRadius, api.MaxRadius)
		}
		t.Stretches = append(t.Stretches, s)
	}
	return t
}

// R5: no product overflows at the greatest numbers that are allowed.
func TestGreatestNumbers(t *testing.T) {
	fast := plain(span(api.MaxHead, api.MaxHead))
	fast.Steer = span(-api.MaxSteer, api.MaxSteer)
	r := steepest(api.MaxLong)
	if l := mustHeads(t, r, fast); l[12] != span(260000, 260000) {
		t.Error(l)
	}
	down, up := speedOf(260000)
	if v := mustSpeed(t, r, fast, 12); v != span(down, up) || v != span(7142, 7143) {
		t.Error(v)
	}
	if h := mustHeight(t, r, fast, 11); h != span(1060, 62900) {
		t.Error(h)
	}
	if n, e := slide.Least(r, fast, 11); n != 4200 || e != api.OK {
		t.Error(n, e)
	}
	if c, v, e := slide.Names(r, fast); c != 1 || v != 1918 || e != api.OK {
		t.Error(c, v, e)
	}
	// The air takes six times the head, and leaves the last fall.
	slow := fast
	slow.Drag = span(api.MaxDrag, api.MaxDrag)
	if l := mustHeads(t, r, slow); l[1] != span(5000, 5000) || l[12] != l[1] {
		t.Error(l)
	}
	// The ice takes 30,000 on each stretch.
	slow.Rub = span(api.MaxRub, api.MaxRub)
	if l := mustHeads(t, r, slow); l[0] != span(api.MaxHead, api.MaxHead) || l[1] != span(0, 0) || l[12] != l[1] {
		t.Error(l)
	}
}

// R3: no argument is written to, nor the memory behind its end.
func TestNoArgumentIsWrittenTo(t *testing.T) {
	mark := api.Stretch{Id: 4444, Long: span(44, 44)}
	whole := append(run(90).Stretches, mark, mark)
	r := api.Track{Stretches: whole[:3]}
	sleds := []api.Sled{bob(), plain(span(4, 4)), bob(), plain(span(44, 44))}
	keep, keepSleds := slices.Clone(whole), slices.Clone(sleds)
	for i := range 3 {
		results(r, bob(), i)
	}
	slide.Shut(r, sleds[:3])
	if !slices.Equal(whole, keep) || !slices.Equal(sleds, keepSleds) {
		t.Error(whole, sleds)
	}
}

// R3: a result shares no memory with another one, and nothing is remembered from one call to another.
func TestCallsAreTheSameAgain(t *testing.T) {
	d := newDice(37)
	var tracks []api.Track
	var sleds []api.Sled
	var first [][]result
	for range 50 {
		r, s := d.track(6), d.sled()
		tracks, sleds, first = append(tracks, r), append(sleds, s), append(first, results(r, s, 0))
	}
	for i := len(tracks) - 1; i >= 0; i-- {
		heads, walls := mustHeads(t, tracks[i], sleds[i]), mustWalls(t, tracks[i], sleds[i])
		clear(heads[:cap(heads)])
		clear(walls[:cap(walls)])
		if again := results(tracks[i], sleds[i], 0); !slices.EqualFunc(again, first[i], same) {
			t.Error(tracks[i], sleds[i], again, first[i])
		}
	}
}

// R5, R7: no call panics, whatever its arguments are.
func TestNoCallPanics(t *testing.T) {
	d := newDice(41)
	ends := []int{math.MinInt, -500, -1, 0, 1, 2, 12, 100, 500, 1000, 5000, 30000, 50000, 200000, 800000, math.MaxInt}
	pick := func() int { return ends[d.IntN(len(ends))] }
	anySpan := func() api.Span { return span(pick(), pick()) }
	for range 3000 {
		r, s := d.track(13), d.sled()
		i := d.IntN(len(r.Stretches))
		switch d.from(0, 4) {
		case 0:
			s = api.Sled{Class: uint8(d.from(0, 4)), Start: anySpan(), Rub: anySpan(), Drag: anySpan(), Weight: anySpan(), Steer: anySpan()}
		case 1:
			f := fields()[d.IntN(5)]
			*f.of(&s) = anySpan()
		case 2:
			r.Stretches[i] = api.Stretch{Id: pick(), Long: anySpan(), Fall: anySpan(), Radius: anySpan(), Side: uint8(d.from(0, 4)), Wall: pick()}
		case 3:
			r.Stretches[i].Radius, r.Stretches[i].Side = anySpan(), uint8(d.from(0, 2))
		}
		slide.Check(s)
		results(r, s, pick())
		results(r, s, i)
		slide.Shut(r, slices.Repeat([]api.Sled{s}, d.from(0, 8)))
	}
}
