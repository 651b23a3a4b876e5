package ice_test

import (
	"math"
	"slices"
	"testing"

	"kreisel/api"
	"kreisel/ice"
	"kreisel/track"
)

func inside(a, b api.Span) bool { return a.Lo >= b.Lo && a.Hi <= b.Hi }

// plansOf returns some plans of a cover, the best one among them if there is one.
func plansOf(d dice, c api.Cover) [][][]int {
	some := [][][]int{d.plan(c), d.plan(c)}
	if p, e := ice.Plan(c); e == api.OK {
		some = append(some, p)
	}
	return some
}

// P2.9: with a safe plan no stretch is too thin, in any truth. P2.10: none has fewer sprayings of any stretch, or takes less water.
func TestSafePlans(t *testing.T) {
	d := newDice(23)
	for range 200 {
		c := d.small(2, 3)
		p, e := ice.Plan(c)
		if e != api.OK {
			continue
		}
		if l, f := ice.Thin(c, p); len(l) != 0 || f != api.OK {
			t.Error(c, p, l, f)
		}
		truths(c, func(x truth) {
			if l := x.thin(c, p); len(l) > 0 {
				t.Error(c, p, x, l)
			}
		})
		need, water := mustNeed(t, c), mustWater(t, c, p)
		plans(c, func(other [][]int) {
			if mustSafe(t, c, other) != api.KnownYes {
				return
			}
			w := mustWater(t, c, other)
			if w.Lo < water.Lo || w.Hi < water.Hi {
				t.Error("less water:", c, p, other)
			}
			for s, n := range counts(c, other) {
				if n < need[s] {
					t.Error("fewer sprayings:", c, need, other)
				}
			}
		})
	}
}

// better returns ways to change a cover by which no plan gets worse.
func better(d dice, c api.Cover) []func(c *api.Cover) {
	s, h := d.from(0, len(c.Beds)-1), d.from(0, len(c.Hours)-1)
	return []func(c *api.Cover){
		func(c *api.Cover) { c.Hours[h].Crew += d.from(1, 3) },
		func(c *api.Cover) { c.Hours[h].Cold = true },
		func(c *api.Cover) { c.Beds[s].Sun = d.from(0, c.Beds[s].Sun) },
		func(c *api.Cover) { c.Hours[h].Runs = d.from(0, c.Hours[h].Runs) },
		func(c *api.Cover) { c.Beds[s].Thick.Lo = d.from(c.Beds[s].Thick.Lo, c.Beds[s].Thick.Hi) },
		func(c *api.Cover) { c.Beds[s].Thick = span(c.Beds[s].Thick.Lo+2, c.Beds[s].Thick.Hi+2) },
		func(c *api.Cover) { c.Layer.Lo = d.from(c.Layer.Lo, c.Layer.Hi) },
		func(c *api.Cover) { c.Wear.Hi = d.from(c.Wear.Lo, c.Wear.Hi) },
	}
}

// P2.11: with more hands, more cold, less sun, fewer sleds or thicker ice a safe plan stays safe, and no stretch needs more.
func TestBetterCovers(t *testing.T) {
	d := newDice(29)
	for range 500 {
		c := d.small(3, 4)
		need := mustNeed(t, c)
		_, none := ice.Plan(c)
		for i, change := range better(d, c) {
			x := changed(c, change)
			for s, n := range mustNeed(t, x) {
				if n > need[s] {
					t.Error("needs more:", i, c, x, s, n)
				}
			}
			if _, e := ice.Plan(x); none == api.OK && e != api.OK {
				t.Error("no plan any more:", i, c, x)
			}
			for _, plan := range plansOf(d, c) {
				if before, after := mustSafe(t, c, plan), mustSafe(t, x, plan); before == api.KnownYes && after != api.KnownYes {
					t.Error("not safe any more:", i, c, x, plan, after)
				}
			}
		}
	}
}

// P2.12: a cover whose hours go on from another one's end is as thick there.
func TestHoursThatGoOn(t *testing.T) {
	d := newDice(31)
	for range 300 {
		c := d.small(3, 4)
		plan := d.plan(c)
		for cut := 1; cut < len(c.Hours); cut++ {
			start := upTo(c, cut-1)
			rest := changed(c, func(r *api.Cover) {
				r.Hours = r.Hours[cut:]
				for s := range r.Beds {
					r.Beds[s].Thick = mustThick(t, start, plan[:cut], s, cut)
				}
			})
			for s := range c.Beds {
				for h := range len(rest.Hours) + 1 {
					if a, b := mustThick(t, c, plan, s, cut+h), mustThick(t, rest, plan[cut:], s, h); a != b {
						t.Error(c, plan, cut, s, h, a, b)
					}
				}
			}
		}
	}
}

// P2.12: hours and stretches after, and beside, do not matter.
func TestHoursAfterAndStretchesBeside(t *testing.T) {
	d := newDice(37)
	for range 300 {
		c := d.small(3, 4)
		plan := d.plan(c)
		s, h := d.from(0, len(c.Beds)-1), d.from(0, len(c.Hours)-1)
		other := d.small(3, 4)
		x := changed(c, func(x *api.Cover) {
			for i := range x.Beds {
				if i != s {
					x.Beds[i] = api.Bed{Thick: d.span(8, 26, 2), Sun: d.from(0, 2)}
				}
			}
			x.Hours = append(x.Hours[:h], other.Hours...)
		})
		rest := d.plan(x)
		for i := range h {
			if !slices.Contains(plan[i], s) {
				rest[i] = nil
				continue
			}
			rest[i] = ints(s)
		}
		for i := range h + 1 {
			if a, b := mustThick(t, c, plan, s, i), mustThick(t, x, rest, s, i); a != b {
				t.Error(c, plan, x, rest, s, i, a, b)
			}
		}
		// The same for how many sleds may come: all beds are as before.
		x.Beds = c.Beds
		copy(rest[:h], plan[:h])
		x.Hours[h] = c.Hours[h]
		rest[h] = nil
		a, e := ice.Most(c, plan, h)
		if b, f := ice.Most(x, rest, h); a != b || e != f {
			t.Error(c, plan, x, rest, h, a, e, b, f)
		}
	}
}

// P2.13: where the run was measured water is known no worse.
func TestWaterOfMeasuredRuns(t *testing.T) {
	d := newDice(41)
	narrower := 0
	for range 500 {
		c := d.small(3, 4)
		plan := d.plan(c)
		from := d.from(0, len(c.Beds)-1)
		m := []api.Measure{{Kind: api.MeasureLong, From: from, To: d.from(from+1, len(c.Beds)), Value: d.span(0, 15, 6)}}
		n, e := track.Narrow(c.Track, m)
		if e != api.OK {
			continue
		}
		before, after := mustWater(t, c, plan), mustWater(t, changed(c, func(c *api.Cover) { c.Track = n }), plan)
		if !inside(after, before) {
			t.Error(c, plan, m, before, after)
		}
		if after != before {
			narrower++
		}
	}
	if narrower < 10 {
		t.Error("too few runs for which a measure tells anything:", narrower)
	}
}

// P2.13: drilled ice has no number that it had not, and a safe plan stays safe.
func TestSafePlansOfDrilledIce(t *testing.T) {
	d := newDice(43)
	drilled := 0
	for range 2000 {
		c := d.small(3, 4)
		x, e := ice.Drill(c, d.from(0, 12), d.span(5, 26, 8))
		if e != api.OK {
			continue
		}
		drilled++
		for s := range c.Beds {
			if !inside(x.Beds[s].Thick, c.Beds[s].Thick) {
				t.Error(c, x)
			}
		}
		for _, plan := range plansOf(d, c) {
			if before, after := mustSafe(t, c, plan), mustSafe(t, x, plan); before != api.KnownOpen && after != before {
				t.Error(c, x, plan, before, after)
			}
			for s := range c.Beds {
				if !inside(mustThick(t, x, plan, s, len(c.Hours)), mustThick(t, c, plan, s, len(c.Hours))) {
					t.Error(c, x, plan, s)
				}
			}
		}
	}
	if drilled < 100 {
		t.Error("too few places that are known:", drilled)
	}
}

// callAll calls all functions.
func callAll(c api.Cover, plan [][]int, stretch, hour, at int, thick api.Span) {
	ice.Check(c)
	results(c, plan, stretch, hour, at, thick)
}

// roomy returns a copy of a list with room behind its end, and what lies there, too.
func roomy[T any](list []T, room ...T) (short, whole []T) {
	whole = slices.Concat(list, room)
	return whole[:len(list)], whole
}

// R3: no argument is written to, nor the memory behind its end.
func TestNoArgumentIsWrittenTo(t *testing.T) {
	for i, change := range []func(c *api.Cover){func(c *api.Cover) {}, func(c *api.Cover) { c.Hours[1].Crew = 1 }, func(c *api.Cover) { c.Limit = 100 }} {
		c := chapter(change)
		var stretches []api.Stretch
		var beds []api.Bed
		var hours []api.Hour
		c.Track.Stretches, stretches = roomy(c.Track.Stretches, api.Stretch{Id: 44}, api.Stretch{Id: 45})
		c.Beds, beds = roomy(c.Beds, api.Bed{Sun: 4}, api.Bed{Sun: 5})
		c.Hours, hours = roomy(c.Hours, api.Hour{Runs: 44}, api.Hour{Runs: 45})
		first, all := roomy(ints(1), 44, 45)
		plan, whole := roomy(lists(first, nil, ints()), ints(44), ints(45))
		keep, keepBeds, keepHours := slices.Clone(stretches), slices.Clone(beds), slices.Clone(hours)
		callAll(c, plan, 1, 1, 100, span(302, 303))
		if !slices.Equal(stretches, keep) || !slices.Equal(beds, keepBeds) || !slices.Equal(hours, keepHours) || !slices.Equal(all, ints(1, 44, 45)) || !samePlan(whole, lists(ints(1), nil, nil, ints(44), ints(45))) {
			t.Error(i, stretches, beds, hours, all, whole)
		}
	}
}

// R3: what a call returns shares no memory with an argument, nor with another part of it.
func TestResultsAreNewMemory(t *testing.T) {
	c := chapter()
	for _, thick := range []api.Span{span(0, 2000), span(302, 320)} {
		d, e := ice.Drill(c, 100, thick)
		if e != api.OK {
			t.Fatal(e)
		}
		clear(d.Track.Stretches[:cap(d.Track.Stretches)])
		clear(d.Beds[:cap(d.Beds)])
		clear(d.Hours[:cap(d.Hours)])
		if !sameCover(c, chapter()) {
			t.Error(c)
		}
	}
	plan := func() [][]int {
		p, e := ice.Plan(c)
		if e != api.OK {
			t.Fatal(e)
		}
		return p
	}
	for i := range chapterPlan() {
		p := plan()
		list := p[i][:cap(p[i])]
		for k := range list {
			list[k] = 44
		}
		for k, l := range chapterPlan() {
			if k != i && !slices.Equal(p[k], l) {
				t.Error(i, k, p)
			}
		}
	}
	if p := plan(); !samePlan(p, chapterPlan()) {
		t.Error(p)
	}
}

// R3: nothing is remembered from one call to another.
func TestCallsAreTheSameAgain(t *testing.T) {
	d := newDice(47)
	var covers []api.Cover
	var first [][][]int
	for range 50 {
		c := d.small(3, 4)
		p, _ := ice.Plan(c)
		_, l, _ := ice.Short(c)
		covers, first = append(covers, c), append(first, append(slices.Clone(p), l, mustNeed(t, c)))
	}
	for i := len(covers) - 1; i >= 0; i-- {
		p, _ := ice.Plan(covers[i])
		_, l, _ := ice.Short(covers[i])
		if again := append(slices.Clone(p), l, mustNeed(t, covers[i])); !samePlan(again, first[i]) {
			t.Error(covers[i], again, first[i])
		}
	}
}

// R4: a nil list and an empty one are the same.
func TestNilAndEmpty(t *testing.T) {
	for i, plan := range [][][]int{{nil, nil, nil}, {{}, {}, {}}, {nil, {}, nil}} {
		l, e := ice.Thin(chapter(), plan)
		w, f := ice.Water(chapter(), plan)
		if len(l) != 3 || e != api.OK || w != span(0, 0) || f != api.OK {
			t.Error(i, l, e, w, f)
		}
	}
	for i, c := range []api.Cover{{}, {Track: api.Track{Stretches: []api.Stretch{}}, Beds: []api.Bed{}, Hours: []api.Hour{}}} {
		if e := ice.Check(c); e != api.ErrTrack {
			t.Error(i, e)
		}
	}
	for i, hours := range [][]api.Hour{nil, {}} {
		if e := ice.Check(chapter(func(c *api.Cover) { c.Hours = hours })); e != api.ErrIce {
			t.Error(i, e)
		}
	}
}

// R5, R7: no call panics, whatever its arguments are.
func TestNoCallPanics(t *testing.T) {
	d := newDice(53)
	ends := []int{math.MinInt, -1, 0, 1, 2, 3, 12, 60, 100, 2000, 360000, math.MaxInt}
	pick := func() int { return ends[d.IntN(len(ends))] }
	anySpan := func() api.Span { return span(pick(), pick()) }
	for range 5000 {
		c := d.small(12, 8)
		plan := d.plan(c)
		s, h := d.IntN(len(c.Beds)), d.IntN(len(c.Hours))
		switch d.from(0, 9) {
		case 0:
			c.Beds[s] = api.Bed{Thick: anySpan(), Sun: pick()}
		case 1:
			c.Hours[h] = api.Hour{Melt: anySpan(), Runs: pick(), Crew: pick(), Cold: true}
		case 2:
			c.Wear, c.Layer = anySpan(), anySpan()
		case 3:
			c.Rate, c.Limit, c.Base = pick(), pick(), pick()
		case 4:
			c.Track.Stretches[s] = api.Stretch{Id: pick(), Long: anySpan(), Fall: anySpan()}
		case 5:
			plan[h] = ints(pick(), pick())
		case 6:
			plan = plan[:h]
		case 7:
			c.Beds, c.Hours = c.Beds[:s], c.Hours[:h]
		}
		callAll(c, plan, pick(), pick(), pick(), anySpan())
		callAll(c, plan, s, h, d.from(0, 20), d.span(0, 26, 5))
	}
}

// R7: also the largest covers whose hands are just enough, or just too few, are soon done.
func TestFullHoursEnd(t *testing.T) {
	for crew := range 9 {
		c := tight(slices.Repeat(ints(crew), api.MaxHours), slices.Repeat(ints(4), api.MaxStretches)...)
		c.Hours[api.MaxHours-1].Runs = 1
		p, e := ice.Plan(c)
		h, l, f := ice.Short(c)
		// 48 sprayings in seven hours are seven in each one.
		if crew >= 7 && (e != api.OK || sum(counts(c, p)) != 48 || f != api.ErrNone) || crew < 7 && (e != api.ErrBad || f != api.OK || h != 7 || len(l) == 0) {
			t.Error(crew, p, e, h, l, f)
		}
	}
}
