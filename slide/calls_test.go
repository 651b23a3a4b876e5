package slide_test

import (
	"slices"
	"testing"

	"kreisel/api"
	"kreisel/slide"
)

func TestExamples(t *testing.T) {
	if l := mustHeads(t, run(100), bob()); !slices.Equal(l, []api.Span{span(200, 300), span(431, 677), span(487, 814), span(658, 1108)}) {
		t.Error("Heads:", l)
	}
	if v, e := slide.Speed(run(100), bob(), 3); v != span(359, 467) || e != api.OK {
		t.Error("Speed:", v, e)
	}
	if h := mustHeight(t, run(100), bob(), 1); h != span(16, 95) {
		t.Error("Height:", h)
	}
	for wall, want := range map[int]uint8{100: api.KnownYes, 95: api.KnownYes, 94: api.KnownOpen, 90: api.KnownOpen, 16: api.KnownOpen, 15: api.KnownNo, 10: api.KnownNo} {
		if k := mustSafe(t, run(wall), bob()); k != want {
			t.Error("Safe:", wall, k)
		}
	}
	if c, v, e := slide.Names(run(90), bob()); c != 1 || v != 386 || e != api.OK {
		t.Error("Names:", c, v, e)
	}
	if c, v, e := slide.Names(run(100), bob()); c != 0 || v != 0 || e != api.ErrNone {
		t.Error("Names:", c, v, e)
	}
	// The sled of the chapter of the master.
	if c, v, e := slide.Names(run(100), bob(func(s *api.Sled) { s.Start.Hi = 400 })); c != 1 || v != 417 || e != api.OK {
		t.Error("Names:", c, v, e)
	}
	if n, e := slide.Start(run(100), bob()); n != 373 || e != api.OK {
		t.Error("Start:", n, e)
	}
	if l := mustWalls(t, run(100), bob()); !slices.Equal(l, ints(0, 95, 0)) {
		t.Error("Walls:", l)
	}
	if n, e := slide.Least(run(100), bob(), 0); n != 10959 || e != api.OK {
		t.Error("Least:", n, e)
	}
}

// P3.1 to P3.7, P3.12: what is told is what is so in all truths, and both ends come about.
func TestAllTruths(t *testing.T) {
	d := newDice(5)
	known := map[uint8]int{}
	for range 600 {
		r, s := d.track(3), d.sled()
		all := truths(r, s)
		heads, walls := mustHeads(t, r, s), mustWalls(t, r, s)
		if len(heads) != len(all.heads) || len(walls) != len(r.Stretches) {
			t.Fatal(r, s, heads, walls)
		}
		for mark, h := range all.heads {
			if heads[mark] != h.span {
				t.Error("Heads:", r, s, mark, heads[mark], h.span)
			}
			low, _ := speedOf(h.span.Lo)
			_, high := speedOf(h.span.Hi)
			if v, e := slide.Speed(r, s, mark); v != span(low, high) || e != api.OK {
				t.Error("Speed:", r, s, mark, v, e)
			}
		}
		for i := range r.Stretches {
			n, e := slide.Least(r, s, i)
			if n != all.least[i] || (e == api.OK) != (n > 0) || e != api.OK && e != api.ErrNone {
				t.Error("Least:", r, s, i, n, e, all.least[i])
			}
			if !isCurve(r.Stretches[i]) {
				if walls[i] != 0 {
					t.Error("Walls:", r, s, i, walls[i])
				}
				continue
			}
			if h := mustHeight(t, r, s, i); h != all.heights[i].span || walls[i] != max(0, h.Hi) {
				t.Error("Height:", r, s, i, h, walls[i], all.heights[i].span)
			}
		}
		curve, speed, e := slide.Names(r, s)
		switch first := slices.Index(all.throws, true); {
		case first < 0 && (curve != 0 || speed != 0 || e != api.ErrNone):
			t.Error("Names of a sled that is safe:", r, s, curve, speed, e)
		case first >= 0 && (curve != first || speed != namedSpeed(r, s, first) || e != api.OK):
			t.Error("Names:", r, s, curve, speed, e, first)
		}
		k := mustSafe(t, r, s)
		if k != all.knownSafe() {
			t.Error("Safe:", r, s, k)
		}
		if shut, e := slide.Shut(r, []api.Sled{s}); e != api.OK || (len(shut) == 0) != (k == api.KnownYes) {
			t.Error("Shut:", r, s, shut, e)
		}
		known[k]++
	}
	for k := range uint8(3) {
		if known[k] < 50 {
			t.Error("too few sleds of which is known:", k, known[k])
		}
	}
}

// namedSpeed returns the speed of the least head at which a curve throws a sled, word for word.
func namedSpeed(r api.Track, s api.Sled, curve int) int {
	head := 0
	for 1200*head/(10*r.Stretches[curve].Radius.Lo)+s.Steer.Hi <= r.Stretches[curve].Wall {
		head++
	}
	down, _ := speedOf(head)
	return down
}

// P3.1: the air takes of the head at the mark, before the fall; the ice takes of both; each one rounds down, and neither leaves less than nothing.
func TestHeadsAreTakenInOrder(t *testing.T) {
	one := func(long, fall int) api.Track {
		return api.Track{Stretches: []api.Stretch{{Long: span(long, long), Fall: span(fall, fall)}}}
	}
	for i, x := range []struct {
		t                            api.Track
		head, drag, weight, rub, end int
	}{
		{one(1000, 0), 0, 1000, 50000, 100, 0}, {one(1000, 7), 50, 0, 50000, 0, 57},
		// A fifth of the head, rounded down; nothing of the fall.
		{one(1000, 70), 54, 1000, 50000, 0, 114}, {one(1000, 70), 55, 1000, 50000, 0, 114}, {one(1000, 70), 56, 1000, 50000, 0, 115}, {one(1000, 70), 4, 1000, 50000, 0, 74}, {one(1000, 70), 5, 1000, 50000, 0, 74},
		// All of it, and six times as much: the fall is left.
		{one(5000, 70), 54, 1000, 50000, 0, 70}, {one(30000, 70), 54, 1000, 50000, 0, 70}, {one(30000, 0), 54, 1000, 50000, 0, 0}, {one(4999, 70), 5000, 1000, 50000, 0, 71}, {one(4999, 70), 4999, 1000, 50000, 0, 71}, {one(30000, 300), 200000, 1000, 50000, 1, 0}, {one(30000, 301), 200000, 1000, 50000, 1, 1},
		// The ice takes 9 on 999, and on 900; on 99 nothing, at a friction of 1.
		{one(999, 5), 6, 0, 50000, 1, 2}, {one(900, 5), 6, 0, 50000, 1, 2}, {one(900, 5), 4, 0, 50000, 1, 0}, {one(900, 5), 3, 0, 50000, 1, 0}, {one(99, 5), 3, 0, 50000, 1, 8}, {one(99, 5), 3, 0, 50000, 100, 0}, {one(50, 0), 3, 0, 50000, 3, 2},
		// More weight.
		{one(1000, 0), 160000, 1000, 800000, 0, 158000}, {one(1000, 0), 79, 1000, 800000, 0, 79}, {one(1000, 0), 80, 1000, 800000, 0, 79},
	} {
		s := api.Sled{Class: api.ClassBob, Start: span(x.head, x.head), Rub: span(x.rub, x.rub), Drag: span(x.drag, x.drag), Weight: span(x.weight, x.weight)}
		if l := mustHeads(t, x.t, s); !slices.Equal(l, []api.Span{span(x.head, x.head), span(x.end, x.end)}) {
			t.Error(i, l)
		}
	}
}

// P3.2: 1,962 times 2,180 times k times k, by ten, is the square of 654 times k.
func TestSpeedOfSquares(t *testing.T) {
	for i, x := range []struct {
		head api.Span
		want api.Span
	}{
		{span(0, 0), span(0, 0)}, {span(1, 1), span(14, 15)}, {span(0, 1), span(0, 15)}, {span(200, 200), span(198, 199)},
		{span(2180, 2180), span(654, 654)}, {span(2179, 2179), span(653, 654)}, {span(2181, 2181), span(654, 655)}, {span(2179, 2181), span(653, 655)}, {span(2180*81, 2180*81), span(5886, 5886)}, {span(2180*81-1, 2180*81+1), span(5885, 5887)}, {span(api.MaxHead, api.MaxHead), span(6264, 6265)},
	} {
		if v, e := slide.Speed(bend(500, 0), plain(x.head), 0); v != x.want || e != api.OK {
			t.Error(i, v, e)
		}
	}
}

// P3.2: the head in a curve is the greater one of both marks; what is left by a division is not rounded up; the steering is added behind it.
func TestHeightOfACurve(t *testing.T) {
	rising := changed(bend(500, 0), 0, func(s *api.Stretch) { s.Fall = span(50, 50) })
	for i, x := range []struct {
		t     api.Track
		rub   int
		start int
		steer api.Span
		want  api.Span
	}{
		{bend(500, 0), 0, 0, span(0, 0), span(0, 0)}, {bend(500, 0), 0, 0, span(-500, 500), span(-500, 500)}, {bend(500, 0), 0, 4, span(0, 0), span(0, 0)}, {bend(500, 0), 0, 5, span(0, 0), span(1, 1)}, {bend(500, 0), 0, 4, span(-1, -1), span(-1, -1)}, {bend(20000, 0), 0, 166, span(0, 2), span(0, 2)}, {bend(20000, 0), 0, 167, span(0, 2), span(1, 3)},
		// It is 100 at the first mark, and 0, or 150, at the next one.
		{bend(500, 0), 100, 100, span(0, 0), span(24, 24)}, {rising, 0, 100, span(0, 0), span(36, 36)},
	} {
		s := plain(span(x.start, x.start))
		s.Rub, s.Steer = span(x.rub, x.rub), x.steer
		if h := mustHeight(t, x.t, s, 0); h != x.want {
			t.Error(i, h)
		}
	}
}

// P3.3, P3.4: a curve throws only above its wall; the first one is named, also if a later one throws in each truth.
func TestSafeAndNamesAtTheEdge(t *testing.T) {
	for i, x := range []struct {
		t            api.Track
		start, steer api.Span
		safe         uint8
		curve, speed int
		e            api.Errno
	}{
		// At a radius of 500 and a head of 500 it is 120.
		{bend(500, 120), span(500, 500), span(0, 0), api.KnownYes, 0, 0, api.ErrNone}, {bend(500, 119), span(500, 500), span(0, 0), api.KnownNo, 0, 313, api.OK}, {bend(500, 119), span(499, 500), span(0, 0), api.KnownOpen, 0, 313, api.OK}, {bend(500, 119), span(499, 499), span(0, 0), api.KnownYes, 0, 0, api.ErrNone}, {bend(500, 120), span(500, 500), span(0, 1), api.KnownOpen, 0, 313, api.OK}, {bend(500, 120), span(500, 500), span(1, 1), api.KnownNo, 0, 313, api.OK},
		// It is thrown also if it stands, or just if it goes.
		{bend(500, 0), span(0, 0), span(1, 1), api.KnownNo, 0, 0, api.OK}, {bend(500, 0), span(0, 9), span(0, 0), api.KnownOpen, 0, 31, api.OK}, {bend(500, 0), span(9, 9), span(0, 0), api.KnownNo, 0, 31, api.OK}, {bend(500, 0), span(4, 4), span(0, 0), api.KnownYes, 0, 0, api.ErrNone}, {bend(500, 0), span(0, 9), span(-500, -5), api.KnownYes, 0, 0, api.ErrNone},
		// A speed that is less than in any truth.
		{bend(500, 10), span(2000, 2100), span(0, 0), api.KnownNo, 0, 95, api.OK},
		{joined(bend(500, 120), bend(500, 110), bend(500, 10)), span(460, 500), span(0, 0), api.KnownNo, 1, 301, api.OK}, {joined(bend(500, 120), bend(500, 120), bend(500, 119)), span(460, 500), span(0, 0), api.KnownOpen, 2, 313, api.OK}, {joined(bend(500, 10), bend(500, 120)), span(460, 501), span(0, 0), api.KnownNo, 0, 95, api.OK},
		// Nobody is thrown where it is straight, whatever its wall.
		{api.Track{Stretches: []api.Stretch{{Long: span(1, 1)}}}, span(500, 500), span(500, 500), api.KnownYes, 0, 0, api.ErrNone},
	} {
		s := plain(x.start)
		s.Steer = x.steer
		if k := mustSafe(t, x.t, s); k != x.safe {
			t.Error(i, k)
		}
		if c, v, e := slide.Names(x.t, s); c != x.curve || v != x.speed || e != x.e {
			t.Error(i, c, v, e)
		}
	}
}

// P3.4: with the least radius and the greatest steering, whatever else throws.
func TestNamesTellsTheLeastHead(t *testing.T) {
	r := changed(bend(500, 30), 0, func(s *api.Stretch) { s.Radius = span(600, 900) })
	s := plain(span(100, 400))
	s.Steer = span(-10, 11)
	// 20 are from a head of 100 on, at a radius of 600.
	if c, v, e := slide.Names(r, s); c != 0 || v != 140 || e != api.OK {
		t.Error(c, v, e)
	}
}

// P3.5, P3.9: from the start that is told, and each lower one, it is safe, and from the next higher one it may not be.
func TestStartOfAnySled(t *testing.T) {
	d := newDice(7)
	found := map[api.Errno]int{}
	for range 300 {
		r, s := d.track(4), d.sled()
		n, e := slide.Start(r, s)
		found[e]++
		from := func(lo, hi int) uint8 {
			other := s
			other.Start = span(lo, hi)
			return mustSafe(t, r, other)
		}
		switch {
		case e == api.ErrNone:
			if n != 0 || from(0, 0) == api.KnownYes {
				t.Error(r, s, n)
			}
		case e != api.OK || n < 0 || n > api.MaxHead:
			t.Error(r, s, n, e)
		default:
			lower := d.from(0, n)
			if from(0, n) != api.KnownYes || from(n, n) != api.KnownYes || from(lower, lower) != api.KnownYes || from(0, lower) != api.KnownYes {
				t.Error("not safe:", r, s, n, lower)
			}
			if n < api.MaxHead && (from(0, n+1) == api.KnownYes || from(n+1, n+1) == api.KnownYes) {
				t.Error("safe from a higher one, too:", r, s, n)
			}
		}
		// The start that it has does not matter.
		s.Start = d.span(0, api.MaxHead, api.MaxHead)
		if m, f := slide.Start(r, s); m != n || f != e {
			t.Error(r, s, n, e, m, f)
		}
	}
	if found[api.OK] < 100 || found[api.ErrNone] < 30 {
		t.Error("too few starts:", found)
	}
}

func TestStartAtTheEdge(t *testing.T) {
	level := api.Track{Stretches: []api.Stretch{{Long: span(1, 1)}}}
	for i, x := range []struct {
		t     api.Track
		steer int
		want  int
		e     api.Errno
	}{
		{level, 500, api.MaxHead, api.OK},
		// At a radius of 500 a head of five is a millimetre.
		{bend(500, 0), 0, 4, api.OK}, {bend(500, 0), 1, 0, api.ErrNone}, {bend(500, 1), 1, 4, api.OK}, {bend(500, 0), -1, 8, api.OK}, {bend(500, 100), 0, 420, api.OK}, {bend(500, 5000), 0, 20837, api.OK}, {bend(500, 5000), -500, 22920, api.OK},
		// At one of 20,000 it is 1,200 at the greatest head.
		{bend(20000, 1200), 0, api.MaxHead, api.OK}, {bend(20000, 1199), 0, api.MaxHead - 1, api.OK}, {bend(20000, 1198), 0, 199833, api.OK},
		// The second curve is the one that throws.
		{joined(bend(500, 100), bend(500, 1)), 0, 8, api.OK}, {joined(bend(500, 100), bend(500, 1)), 2, 0, api.ErrNone},
	} {
		s := plain(span(7, 7))
		s.Steer = span(-500, x.steer)
		if n, e := slide.Start(x.t, s); n != x.want || e != x.e {
			t.Error(i, n, e)
		}
	}
}

// P3.5, P3.9: with the walls that are told it is safe, and with a lower one it may be thrown there.
func TestWallsOfAnySled(t *testing.T) {
	d := newDice(11)
	lower := 0
	for range 300 {
		r, s := d.track(6), d.sled()
		walls := mustWalls(t, r, s)
		safe := api.Track{Stretches: slices.Clone(r.Stretches)}
		for i, wall := range walls {
			safe.Stretches[i].Wall = wall
		}
		if k := mustSafe(t, safe, s); k != api.KnownYes {
			t.Error(r, s, walls, k)
		}
		for i, wall := range walls {
			if wall == 0 {
				continue
			}
			lower++
			less := changed(safe, i, func(s *api.Stretch) { s.Wall-- })
			if c, _, e := slide.Names(less, s); c != i || e != api.OK || mustSafe(t, less, s) == api.KnownYes {
				t.Error(r, s, walls, i, c, e)
			}
		}
	}
	if lower < 100 {
		t.Error("too few walls:", lower)
	}
}

// P3.5: no wall is below 0, or asked for where it is straight; those that are told may be higher than any that a track has.
func TestWallsAtTheEdge(t *testing.T) {
	high := joined(bend(500, 0), bend(20000, 0), api.Track{Stretches: []api.Stretch{{Long: span(1, 1), Wall: 77}}})
	for i, x := range []struct {
		start, steer api.Span
		want         []int
	}{
		{span(0, 0), span(0, 0), ints(0, 0, 0)}, {span(0, 0), span(-9, -1), ints(0, 0, 0)}, {span(0, 0), span(-9, 1), ints(1, 1, 0)}, {span(100, 100), span(-9, -3), ints(21, 0, 0)}, {span(0, 1000), span(0, 0), ints(240, 6, 0)}, {span(api.MaxHead, api.MaxHead), span(500, 500), ints(48500, 1700, 0)},
	} {
		s := plain(x.start)
		s.Steer = x.steer
		if l := mustWalls(t, high, s); !slices.Equal(l, x.want) {
			t.Error(i, l)
		}
	}
}

// P3.6: the greatest head of both marks, the least length, and both rounded so that it is least, but not below.
func TestLeastAtTheEdge(t *testing.T) {
	long := func(lo, hi, fall int) api.Track {
		return api.Track{Stretches: []api.Stretch{{Long: span(lo, hi), Fall: span(0, fall)}}}
	}
	for i, x := range []struct {
		t     api.Track
		start api.Span
		rub   int
		want  int
		e     api.Errno
	}{
		// A head of 2,180 is a speed of 654, one more is 655.
		{long(654, 654, 0), span(2180, 2180), 0, 1000, api.OK}, {long(655, 655, 0), span(2180, 2180), 0, 1002, api.OK}, {long(654, 999, 0), span(0, 2180), 0, 1000, api.OK}, {long(654, 654, 0), span(0, 2181), 0, 999, api.OK}, {long(655, 655, 0), span(2181, 2181), 0, 1000, api.OK},
		{long(1, 1, 0), span(api.MaxHead, api.MaxHead), 0, 1, api.OK}, {long(1, 9, 0), span(0, 1), 0, 67, api.OK},
		// It comes to a stand, or goes only at the end.
		{long(654, 654, 0), span(2180, 2180), 100, 1000, api.OK}, {long(654, 654, 2180), span(0, 0), 0, 1000, api.OK}, {long(654, 654, 2180), span(0, 1), 0, 999, api.OK},
		{long(30000, 30000, 0), span(1, 1), 0, 2000000, api.OK}, {long(30000, 30000, 0), span(0, 0), 0, 0, api.ErrNone}, {long(99, 99, 0), span(0, 0), 1, 0, api.ErrNone}, {long(5000, 5000, 50), span(0, 0), 1, 0, api.ErrNone}, {long(5000, 5000, 51), span(0, 0), 1, 333334, api.OK},
	} {
		s := plain(x.start)
		s.Rub = span(x.rub, x.rub)
		if n, e := slide.Least(x.t, s, 0); n != x.want || e != x.e {
			t.Error(i, n, e)
		}
	}
}

// P3.6: just those are told that may be thrown, also if they surely are.
func TestShut(t *testing.T) {
	r := bend(500, 120)
	safe, open, thrown := plain(span(500, 500)), plain(span(500, 505)), plain(span(505, 505))
	for i, x := range []struct {
		l    []api.Sled
		want []int
		e    api.Errno
	}{
		{nil, nil, api.OK}, {[]api.Sled{}, nil, api.OK}, {[]api.Sled{safe}, nil, api.OK}, {[]api.Sled{open}, ints(0), api.OK}, {[]api.Sled{thrown}, ints(0), api.OK}, {[]api.Sled{safe, open, safe, thrown, open, safe}, ints(1, 3, 4), api.OK}, {slices.Repeat([]api.Sled{open}, 6), ints(0, 1, 2, 3, 4, 5), api.OK},
		{slices.Repeat([]api.Sled{safe}, 7), nil, api.ErrMany}, {slices.Repeat([]api.Sled{open}, 5000), nil, api.ErrMany}, {append(slices.Repeat([]api.Sled{open}, 6), api.Sled{}), nil, api.ErrMany},
		{append(slices.Repeat([]api.Sled{open}, 5), api.Sled{}), nil, api.ErrSled}, {[]api.Sled{{}, open}, nil, api.ErrSled}, {[]api.Sled{open, {}, open}, nil, api.ErrSled},
	} {
		if l, e := slide.Shut(r, x.l); !slices.Equal(l, x.want) || e != x.e {
			t.Error(i, l, e)
		}
	}
}
