package ice_test

import (
	"math"
	"slices"
	"testing"

	"kreisel/api"
	"kreisel/ice"
)

func TestExamples(t *testing.T) {
	c, plan := chapter(), chapterPlan()
	if s, e := ice.Loss(c, 1, 0); s != span(14, 26) || e != api.OK {
		t.Error("Loss:", s, e)
	}
	if l, e := ice.Need(c); !slices.Equal(l, ints(1, 2, 1)) || e != api.OK {
		t.Error("Need:", l, e)
	}
	if p, e := ice.Plan(c); !samePlan(p, plan) || e != api.OK {
		t.Error("Plan:", p, e)
	}
	if s, e := ice.Thick(c, plan, 1, 2); s != span(294, 328) || e != api.OK {
		t.Error("Thick:", s, e)
	}
	if w, e := ice.Water(c, plan); w != span(33000, 34500) || e != api.OK {
		t.Error("Water:", w, e)
	}
	if k, e := ice.Safe(c, plan); k != api.KnownYes || e != api.OK {
		t.Error("Safe:", k, e)
	}
	if n, e := ice.Most(c, plan, 2); n != 15 || e != api.OK {
		t.Error("Most:", n, e)
	}
	if l, e := ice.Thin(c, make([][]int, 3)); !slices.Equal(l, [][2]int{{2, 0}, {2, 1}, {2, 2}}) || e != api.OK {
		t.Error("Thin:", l, e)
	}
	if k, e := ice.Safe(c, make([][]int, 3)); k != api.KnownOpen || e != api.OK {
		t.Error("Safe without any spraying:", k, e)
	}
	if h, l, e := ice.Short(chapter(func(c *api.Cover) { c.Hours[1].Crew = 1 })); h != 2 || !slices.Equal(l, ints(0, 1)) || e != api.OK {
		t.Error("Short:", h, l, e)
	}
	if h, l, e := ice.Short(c); h != 0 || len(l) != 0 || e != api.ErrNone {
		t.Error("Short with enough hands:", h, l, e)
	}
	if d, e := ice.Drill(c, 100, span(302, 320)); e != api.OK || d.Beds[0].Thick != span(302, 310) {
		t.Error("Drill:", d, e)
	}
	if _, e := ice.Drill(c, 4050, span(302, 320)); e != api.ErrNone {
		t.Error("Drill at 4050:", e)
	}
	// 290, less 26, and a layer of 20.
	if s := mustThick(t, c, lists(ints(1), nil, nil), 1, 1); s.Lo != 284 {
		t.Error("Thick:", s)
	}
}

// P2.1 to P2.3, P2.9: what is told is what is so in all truths; both ends come about.
func TestAllTruths(t *testing.T) {
	d := newDice(3)
	for range 400 {
		c := d.small(3, 3)
		plan := d.plan(c)
		n, m := len(c.Beds), len(c.Hours)
		thick, loss := make([]hull, n*(m+1)), make([]hull, n*m)
		may := map[[2]int]bool{}
		safe, unsafe := false, false
		truths(c, func(x truth) {
			for s := range n {
				for h, at := range x.at(c, plan, s) {
					thick[s*(m+1)+h].put(at)
				}
				for h := range m {
					loss[s*m+h].put(x.loss(c, s, h))
				}
			}
			pairs := x.thin(c, plan)
			for _, p := range pairs {
				may[p] = true
			}
			safe, unsafe = safe || len(pairs) == 0, unsafe || len(pairs) > 0
		})
		var thin [][2]int
		for h := range m {
			for s := range n {
				if may[[2]int{h, s}] {
					thin = append(thin, [2]int{h, s})
				}
				if l, e := ice.Loss(c, s, h); l != loss[s*m+h].span || e != api.OK {
					t.Error("Loss:", c, s, h, l, e)
				}
			}
		}
		for s := range n {
			for h := range m + 1 {
				if l := mustThick(t, c, plan, s, h); l != thick[s*(m+1)+h].span {
					t.Error("Thick:", c, plan, s, h, l)
				}
			}
		}
		if l, e := ice.Thin(c, plan); !slices.Equal(l, thin) || e != api.OK {
			t.Error("Thin:", c, plan, l, e)
		}
		known := uint8(api.KnownOpen)
		if !unsafe {
			known = api.KnownYes
		} else if !safe {
			known = api.KnownNo
		}
		if k := mustSafe(t, c, plan); k != known {
			t.Error("Safe:", c, plan, k, known)
		}
	}
}

// bare returns a cover of one stretch and one hour.
func bare(change func(c *api.Cover)) api.Cover {
	c := api.Cover{Track: api.Track{Stretches: []api.Stretch{{Long: span(5, 5)}}}, Beds: []api.Bed{{Thick: span(20, 22), Sun: 1}}, Hours: []api.Hour{{Melt: span(5, 6), Runs: 2, Crew: 1, Cold: true}}, Wear: span(1, 2), Layer: span(3, 4), Limit: 10, Base: 10}
	change(&c)
	return c
}

// P2.3: just as thick as it has to be is not too thin; in an hour without sleds just Base counts; below 0 is too thin also if Base is 0.
func TestThinAtTheEdge(t *testing.T) {
	for i, x := range []struct {
		change func(c *api.Cover)
		known  uint8
	}{
		{func(c *api.Cover) {}, api.KnownYes}, {func(c *api.Cover) { c.Limit, c.Base = 11, 0 }, api.KnownOpen}, {func(c *api.Cover) { c.Limit, c.Base = 11, 11 }, api.KnownOpen}, {func(c *api.Cover) { c.Limit, c.Base = 15, 0 }, api.KnownOpen}, {func(c *api.Cover) { c.Limit, c.Base = 16, 0 }, api.KnownNo}, {func(c *api.Cover) { c.Limit, c.Base = 10, 0 }, api.KnownYes},
		{func(c *api.Cover) { c.Hours[0].Runs, c.Limit, c.Base = 0, 2000, 14 }, api.KnownYes}, {func(c *api.Cover) { c.Hours[0].Runs, c.Limit, c.Base = 0, 2000, 15 }, api.KnownOpen}, {func(c *api.Cover) { c.Hours[0].Runs, c.Limit, c.Base = 0, 2000, 18 }, api.KnownNo}, {func(c *api.Cover) { c.Hours[0].Runs, c.Limit, c.Base = 1, 14, 5 }, api.KnownOpen}, {func(c *api.Cover) { c.Hours[0].Runs, c.Limit, c.Base = 1, 12, 5 }, api.KnownYes},
		{func(c *api.Cover) { c.Beds[0].Thick, c.Limit, c.Base = span(10, 10), 0, 0 }, api.KnownYes}, {func(c *api.Cover) { c.Beds[0].Thick, c.Limit, c.Base = span(9, 9), 0, 0 }, api.KnownOpen}, {func(c *api.Cover) { c.Beds[0].Thick, c.Limit, c.Base = span(6, 6), 0, 0 }, api.KnownNo}, {func(c *api.Cover) { c.Beds[0].Thick, c.Hours[0].Runs, c.Limit, c.Base = span(4, 4), 0, 0, 0 }, api.KnownNo},
	} {
		c := bare(x.change)
		// A layer in this hour comes too late for it.
		for _, plan := range [][][]int{lists(nil), lists(ints(0))} {
			l, e := ice.Thin(c, plan)
			if k := mustSafe(t, c, plan); k != x.known || e != api.OK || (len(l) == 0) != (k == api.KnownYes) {
				t.Error(i, k, l, e)
			}
		}
	}
}

// P2.2: ice is not below 0 at the end of an hour, and a layer is put on what is left then.
func TestIceIsUsedUp(t *testing.T) {
	c := bare(func(c *api.Cover) {
		c.Beds[0].Thick = span(5, 10)
		c.Hours = append(c.Hours, c.Hours[0], api.Hour{})
	})
	for i, x := range []struct {
		plan [][]int
		want []api.Span
	}{
		{lists(nil, nil, nil), []api.Span{span(5, 10), span(0, 3), span(0, 0), span(0, 0)}},
		{lists(ints(0), nil, nil), []api.Span{span(5, 10), span(3, 7), span(0, 0), span(0, 0)}},
		{lists(ints(0), ints(0), nil), []api.Span{span(5, 10), span(3, 7), span(3, 4), span(3, 4)}},
	} {
		for h, want := range x.want {
			if s := mustThick(t, c, x.plan, 0, h); s != want {
				t.Error(i, h, s)
			}
		}
	}
}

// mostOf returns what Most has to, by trying all numbers.
func mostOf(c api.Cover, plan [][]int, hour int) (int, api.Errno) {
	for runs := api.MaxRuns; runs >= 0; runs-- {
		x := changed(c, func(c *api.Cover) { c.Hours[hour].Runs = runs })
		if !slices.ContainsFunc(worst(x).thin(x, plan), func(p [2]int) bool { return p[0] == hour }) {
			return runs, api.OK
		}
	}
	return 0, api.ErrNone
}

// P2.4: as many sleds as the ice allows.
func TestMost(t *testing.T) {
	d := newDice(5)
	for range 400 {
		c := d.small(3, 4)
		plan := d.plan(c)
		for h := range c.Hours {
			want, e := mostOf(c, plan, h)
			if n, f := ice.Most(c, plan, h); n != want || f != e {
				t.Error(c, plan, h, n, f, want, e)
			}
		}
	}
	for i, x := range []struct {
		change func(c *api.Cover)
		want   int
		e      api.Errno
	}{
		{func(c *api.Cover) {}, 2, api.OK}, {func(c *api.Cover) { c.Beds[0].Thick.Lo = 21 }, 2, api.OK}, {func(c *api.Cover) { c.Beds[0].Thick.Lo = 22 }, 3, api.OK}, {func(c *api.Cover) { c.Beds[0].Thick = span(134, 140) }, 59, api.OK}, {func(c *api.Cover) { c.Beds[0].Thick = span(136, 140) }, 60, api.OK}, {func(c *api.Cover) { c.Beds[0].Thick = span(200, 200) }, 60, api.OK}, {func(c *api.Cover) { c.Wear = span(0, 0) }, 60, api.OK},
		// Without sleds Base is enough.
		{func(c *api.Cover) { c.Beds[0].Thick.Lo = 16 }, 0, api.OK}, {func(c *api.Cover) { c.Beds[0].Thick.Lo = 15 }, 0, api.ErrNone}, {func(c *api.Cover) { c.Limit = 2000 }, 0, api.OK}, {func(c *api.Cover) { c.Limit, c.Base = 2000, 14 }, 0, api.OK}, {func(c *api.Cover) { c.Limit, c.Base = 2000, 15 }, 0, api.ErrNone}, {func(c *api.Cover) { c.Wear, c.Limit = span(0, 0), 15 }, 0, api.OK},
	} {
		if n, e := ice.Most(bare(x.change), lists(ints(0)), 0); n != x.want || e != x.e {
			t.Error(i, n, e)
		}
	}
}

// P2.5: water for each spraying, by how long a stretch is.
func TestWater(t *testing.T) {
	for i, x := range []struct {
		plan [][]int
		rate int
		want api.Span
	}{
		{make([][]int, 3), 3, span(0, 0)}, {lists(ints(0), nil, nil), 3, span(12000, 12300)}, {lists(ints(1), ints(1), nil), 1, span(4000, 4400)}, {lists(ints(2), nil, nil), 100, span(300000, 300000)}, {lists(ints(0, 2), ints(0, 1), nil), 2, span(26000, 26800)}, {chapterPlan(), 0, span(0, 0)},
	} {
		if w := mustWater(t, chapter(func(c *api.Cover) { c.Rate = x.rate }), x.plan); w != x.want {
			t.Error(i, w)
		}
	}
	d := newDice(7)
	for range 200 {
		c := d.great()
		plan := d.plan(c)
		want := span(0, 0)
		for s, n := range counts(c, plan) {
			long := c.Track.Stretches[s].Long
			want = span(want.Lo+n*c.Rate*long.Lo, want.Hi+n*c.Rate*long.Hi)
		}
		if w := mustWater(t, c, plan); w != want {
			t.Error(c, plan, w, want)
		}
	}
}

// R5: the greatest numbers of all.
func TestGreatestCover(t *testing.T) {
	var c api.Cover
	var all []int
	for i := range api.MaxStretches {
		c.Track.Stretches = append(c.Track.Stretches, api.Stretch{Id: i, Long: span(api.MaxLong, api.MaxLong)})
		c.Beds = append(c.Beds, api.Bed{Thick: span(0, api.MaxThick), Sun: api.MaxSun})
		all = append(all, i)
	}
	c.Hours = slices.Repeat([]api.Hour{{Melt: span(0, api.MaxMelt), Runs: api.MaxRuns, Crew: api.MaxStretches, Cold: true}}, api.MaxHours)
	c.Wear, c.Layer, c.Rate, c.Limit, c.Base = span(0, api.MaxWear), span(1, api.MaxLayer), api.MaxRate, api.MaxThick, api.MaxThick
	plan := slices.Repeat(lists(all), api.MaxHours)
	if w := mustWater(t, c, plan); w != span(288000000, 288000000) {
		t.Error(w)
	}
	if s := mustThick(t, c, plan, 11, 8); s != span(1, 2800) {
		t.Error(s)
	}
	// Each hour takes 450 and 1,200 at most.
	if l := mustNeed(t, c); !slices.Equal(l, slices.Repeat(ints(15200), 12)) {
		t.Error(l)
	}
	if p, e := ice.Plan(c); len(p) != 0 || e != api.ErrBad {
		t.Error(p, e)
	}
	if h, l, e := ice.Short(c); h != 0 || len(l) != 0 || e != api.OK {
		t.Error(h, l, e)
	}
	if k := mustSafe(t, c, plan); k != api.KnownOpen {
		t.Error(k)
	}
}

// drilled returns what Drill has to, by going through all lengths of the stretches.
func drilled(c api.Cover, at int, thick api.Span) (api.Cover, api.Errno) {
	var longs []api.Span
	for _, s := range c.Track.Stretches {
		longs = append(longs, s.Long)
	}
	where := map[int]bool{}
	choices(longs, func(l []int) {
		i := 0
		for i < len(l) && sum(l[:i+1]) <= at {
			i++
		}
		where[i] = true
	})
	for i := range c.Beds {
		if len(where) != 1 || !where[i] {
			continue
		}
		left := span(max(c.Beds[i].Thick.Lo, thick.Lo), min(c.Beds[i].Thick.Hi, thick.Hi))
		if left.Lo > left.Hi {
			return api.Cover{}, api.ErrBad
		}
		return changed(c, func(c *api.Cover) { c.Beds[i].Thick = left }), api.OK
	}
	return api.Cover{}, api.ErrNone
}

// P2.8: ice that is drilled where it is known in which stretch this is.
func TestDrill(t *testing.T) {
	d := newDice(11)
	for range 300 {
		c := d.small(3, 3)
		for at := range 20 {
			thick := d.span(5, 28, 6)
			want, e := drilled(c, at, thick)
			if got, f := ice.Drill(c, at, thick); f != e || !sameCover(got, want) {
				t.Error(c, at, thick, got, f, want, e)
			}
		}
	}
	for i, x := range []struct {
		at    int
		thick api.Span
		bed   int
		want  api.Span
		e     api.Errno
	}{
		{0, span(0, api.MaxThick), 0, span(300, 310), api.OK}, {3999, span(0, 300), 0, span(300, 300), api.OK}, {3999, span(310, 310), 0, span(310, 310), api.OK}, {3999, span(305, 306), 0, span(305, 306), api.OK}, {4100, span(295, api.MaxThick), 1, span(295, 300), api.OK}, {5999, span(0, 295), 1, span(290, 295), api.OK}, {6300, span(300, 300), 2, span(300, 300), api.OK}, {8999, span(0, 300), 2, span(300, 300), api.OK},
		{0, span(0, 299), 0, span(0, 0), api.ErrBad}, {0, span(311, api.MaxThick), 0, span(0, 0), api.ErrBad}, {0, span(0, 0), 0, span(0, 0), api.ErrBad},
		{4000, span(300, 300), 0, span(0, 0), api.ErrNone}, {4099, span(300, 300), 0, span(0, 0), api.ErrNone}, {6000, span(0, 0), 0, span(0, 0), api.ErrNone}, {9000, span(300, 300), 0, span(0, 0), api.ErrNone}, {9299, span(300, 300), 0, span(0, 0), api.ErrNone}, {9300, span(300, 300), 0, span(0, 0), api.ErrNone}, {api.MaxRun, span(300, 300), 0, span(0, 0), api.ErrNone},
		{-1, span(300, 300), 0, span(0, 0), api.ErrArg}, {api.MaxRun + 1, span(300, 300), 0, span(0, 0), api.ErrArg}, {math.MinInt, span(300, 300), 0, span(0, 0), api.ErrArg}, {math.MaxInt, span(300, 300), 0, span(0, 0), api.ErrArg},
		{4000, span(301, 300), 0, span(0, 0), api.ErrArg}, {4000, span(-1, 300), 0, span(0, 0), api.ErrArg}, {4000, span(300, api.MaxThick+1), 0, span(0, 0), api.ErrArg}, {0, span(301, 300), 0, span(0, 0), api.ErrArg}, {0, span(-1, -1), 0, span(0, 0), api.ErrArg}, {0, span(math.MinInt, math.MaxInt), 0, span(0, 0), api.ErrArg}, {0, span(math.MaxInt, math.MinInt), 0, span(0, 0), api.ErrArg}, {9300, span(0, 2001), 0, span(0, 0), api.ErrArg},
	} {
		want := api.Cover{}
		if x.e == api.OK {
			want = chapter(func(c *api.Cover) { c.Beds[x.bed].Thick = x.want })
		}
		if got, e := ice.Drill(chapter(), x.at, x.thick); e != x.e || !sameCover(got, want) {
			t.Error(i, got, e)
		}
	}
}
