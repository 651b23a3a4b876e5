package ice_test

import (
	"slices"
	"testing"

	"kreisel/api"
	"kreisel/ice"
)

// best is the first one of the safe plans with the fewest sprayings, among all that were put into it.
type best struct {
	plan  [][]int
	total int
	any   bool
}

func (b *best) put(c api.Cover, plan [][]int) {
	total := sum(counts(c, plan))
	if b.any && (total > b.total || total == b.total && slices.Compare(order(c, plan), order(c, b.plan)) <= 0) {
		return
	}
	b.plan, b.total, b.any = slices.Clone(plan), total, true
}

// bestPlan goes through all plans of a cover, and tells how often each stretch is sprayed at least by one that is safe.
func bestPlan(c api.Cover) (b best, least []int) {
	x := worst(c)
	plans(c, func(plan [][]int) {
		if len(x.thin(c, plan)) > 0 {
			return
		}
		b.put(c, plan)
		count := counts(c, plan)
		if least == nil {
			least = slices.Clone(count)
		}
		for s, n := range count {
			least[s] = min(least[s], n)
		}
	})
	return b, least
}

// P2.6, P2.10: needs word for word; the plan is the first one of all safe plans with the fewest sprayings, which are the least that each stretch has in any of them.
func TestPlanOfAllPlans(t *testing.T) {
	d := newDice(13)
	found, none := 0, 0
	for range 6000 {
		c := d.small(3, 4)
		var want []int
		for _, need := range needsOf(c) {
			want = append(want, need[len(need)-1])
		}
		if l := mustNeed(t, c); !slices.Equal(l, want) {
			t.Fatal("Need:", c, l, want)
		}
		p, e := ice.Plan(c)
		b, least := bestPlan(c)
		if !b.any {
			none++
			if len(p) != 0 || e != api.ErrBad {
				t.Fatal("Plan where there is none:", c, p, e)
			}
			continue
		}
		if b.total > 0 {
			found++
		}
		if !samePlan(p, b.plan) || e != api.OK || !slices.Equal(least, want) || !slices.Equal(counts(c, p), want) {
			t.Fatal("Plan:", c, p, e, b.plan, least, want)
		}
	}
	if found < 100 || none < 100 {
		t.Error("too few plans that spray, or covers without a plan:", found, none)
	}
}

// P2.7, P2.10: the first hour for which there is no safe plan, and the first of the lists with the fewest hours that show it.
func TestShortOfAllPlans(t *testing.T) {
	d := newDice(17)
	long := 0
	for range 6000 {
		c := d.small(3, 4)
		last := 0
		for last < len(c.Hours) {
			if b, _ := bestPlan(upTo(c, last)); !b.any {
				break
			}
			last++
		}
		h, l, e := ice.Short(c)
		if last == len(c.Hours) {
			if h != 0 || len(l) != 0 || e != api.ErrNone {
				t.Fatal("Short where there is a plan:", c, h, l, e)
			}
			continue
		}
		want, ok := shortest(c, needsOf(c), last)
		if !ok || h != last || !slices.Equal(l, want) || e != api.OK {
			t.Fatal("Short:", c, h, l, e, last, want)
		}
		if len(l) > 1 {
			long++
		}
	}
	if long < 5 {
		t.Error("too few lists of more than one hour:", long)
	}
}

// hallPlan returns the first safe plan with the fewest sprayings, and whether there is one: it sprays a stretch if no hours that are left are short after this, with what is needed still.
func hallPlan(c api.Cover) ([][]int, bool) {
	needs := needsOf(c)
	last := len(c.Hours) - 1
	done := make([][]int, len(c.Hours))
	none := make([][]bool, len(c.Hours))
	for h := range none {
		none[h] = make([]bool, len(c.Beds))
	}
	enough := func() bool {
		for bits := range 1 << len(c.Hours) {
			asked, hands := 0, 0
			for h := range c.Hours {
				if bits>>h&1 == 1 && c.Hours[h].Cold {
					hands += c.Hours[h].Crew - len(done[h])
				}
			}
			for s := range c.Beds {
				most, helped := 0, 0
				for h := range c.Hours {
					most = max(most, needs[s][h]-helped)
					if slices.Contains(done[h], s) || c.Hours[h].Cold && !none[h][s] && bits>>h&1 == 0 {
						helped++
					}
				}
				asked += most
			}
			if asked > hands {
				return false
			}
		}
		return true
	}
	if !enough() {
		return nil, false
	}
	for h := range c.Hours {
		for s := range c.Beds {
			none[h][s] = true
			if !c.Hours[h].Cold || len(done[h]) == c.Hours[h].Crew || counts(c, done)[s] == needs[s][last] {
				continue
			}
			done[h] = append(done[h], s)
			if !enough() {
				done[h] = done[h][:len(done[h])-1]
			}
		}
	}
	return done, true
}

// P2.6, P2.7, P2.10: what is told of large covers, and of those with few hands, shows by itself that it is so; the plan is the first one.
func TestLargeCovers(t *testing.T) {
	d := newDice(19)
	found, none := 0, 0
	for i := range 5000 {
		c := d.tense(5, 7)
		if i%10 == 0 {
			c = d.great()
		}
		p, e := ice.Plan(c)
		h, l, f := ice.Short(c)
		want, ok := hallPlan(c)
		if !ok {
			none++
			hours, _ := shortest(c, needsOf(c), h)
			if len(p) != 0 || e != api.ErrBad || f != api.OK || !slices.Equal(l, hours) || !isShort(c, needsOf(c), h, l) {
				t.Fatal("no plan:", c, p, e, h, l, f, hours)
			}
			if h > 0 {
				if q, g := ice.Plan(upTo(c, h-1)); g != api.OK || len(q) != h {
					t.Fatal("a plan of the hours before:", c, h, q, g)
				}
			}
			continue
		}
		if sum(counts(c, p)) > 5 {
			found++
		}
		if !samePlan(p, want) || e != api.OK || f != api.ErrNone || h != 0 || len(l) != 0 {
			t.Fatal("Plan:", c, p, e, want, h, l, f)
		}
		if len(worst(c).thin(c, p)) > 0 || !slices.Equal(counts(c, p), mustNeed(t, c)) || mustSafe(t, c, p) != api.KnownYes {
			t.Fatal("not safe:", c, p)
		}
	}
	if found < 50 || none < 50 {
		t.Error("too few plans that spray much, or covers without a plan:", found, none)
	}
}

// tight returns a cover whose hours are all cold, with some hands, and whose stretches need some sprayings for the first hour in which a sled comes; nothing is lost.
func tight(crews []int, needs ...int) api.Cover {
	c := api.Cover{Layer: span(10, 10), Limit: 1000}
	for _, crew := range crews {
		c.Hours = append(c.Hours, api.Hour{Crew: crew, Cold: true})
	}
	for i, need := range needs {
		c.Track.Stretches = append(c.Track.Stretches, api.Stretch{Id: i, Long: span(1, 1)})
		c.Beds = append(c.Beds, api.Bed{Thick: span(1000-10*need, 1000)})
	}
	return c
}

// P2.6, P2.7: hands of full hours are given to others; each stretch is sprayed once in an hour at most; ends of hours and needs.
func TestHandsOfFullHours(t *testing.T) {
	sleds := func(c api.Cover, hours ...int) api.Cover {
		for _, h := range hours {
			c.Hours[h].Runs = 1
		}
		return c
	}
	for i, x := range []struct {
		c     api.Cover
		plan  [][]int
		hour  int
		hours []int
	}{
		{sleds(tight(ints(1, 1, 0), 1, 1), 2), lists(ints(0), ints(1), nil), 0, nil},
		{sleds(tight(ints(2, 1, 0), 1, 2), 2), lists(ints(0, 1), ints(1), nil), 0, nil},
		{sleds(tight(ints(1, 2, 0), 1, 2), 2), lists(ints(1), ints(0, 1), nil), 0, nil},
		{sleds(tight(ints(1, 1, 1, 0), 1, 2), 3), lists(ints(0), ints(1), ints(1), nil), 0, nil},
		{sleds(tight(ints(5, 5), 1, 1), 1), lists(ints(0, 1), nil), 0, nil},
		// Hands of the last hour are too late; no stretch is sprayed twice in an hour; at once.
		{sleds(tight(ints(0, 5), 1), 1), nil, 1, ints(0)}, {sleds(tight(ints(5, 5), 2), 1), nil, 1, nil}, {sleds(tight(ints(5), 1), 0), nil, 0, nil},
		// Four sprayings, of three that can be done; one of them has to be done in the second hour, and the other hour may have too few hands by itself.
		{sleds(tight(ints(1, 2, 0), 2, 2), 2), nil, 2, ints(0)}, {sleds(tight(ints(2, 1, 0), 2, 2), 2), nil, 2, ints(1)}, {sleds(tight(ints(1, 1, 0), 2, 2), 2), nil, 2, ints(0)}, {sleds(tight(ints(1, 1, 0), 1, 1, 1), 2), nil, 2, ints(0, 1)}, {sleds(tight(ints(3, 0, 0), 1, 1, 2), 2), nil, 2, ints(1)},
		// The hour for which there is none is the first one, whatever comes after it.
		{sleds(tight(ints(1, 2, 3, 0), 1, 1), 1, 3), nil, 1, ints(0)},
	} {
		p, e := ice.Plan(x.c)
		h, l, f := ice.Short(x.c)
		if x.plan != nil && (!samePlan(p, x.plan) || e != api.OK || h != 0 || len(l) != 0 || f != api.ErrNone) {
			t.Error(i, p, e, h, l, f)
		}
		if x.plan == nil && (len(p) != 0 || e != api.ErrBad || h != x.hour || !slices.Equal(l, x.hours) || f != api.OK) {
			t.Error(i, p, e, h, l, f)
		}
	}
}

// P2.6: a stretch that is sprayed twice may have to change its hours among themselves. The first one needs one spraying for the hour 2, and two for the hour 3; the second one two for the hour 3.
func TestHandsOfOneStretchChangeHours(t *testing.T) {
	c := tight(ints(1, 1, 2, 0), 0, 0)
	c.Beds = []api.Bed{{Thick: span(1000, 1000), Sun: 1}, {Thick: span(1022, 1022), Sun: 3}}
	c.Hours[2].Melt, c.Hours[2].Runs = span(4, 4), 1
	c.Hours[3].Melt, c.Hours[3].Runs = span(10, 10), 1
	if p, e := ice.Plan(c); !samePlan(p, lists(ints(0), ints(1), ints(0, 1), nil)) || e != api.OK {
		t.Error(p, e)
	}
}

// P2.7: hours without Cold are in no list, and hours with Cold that have no hands are where they have to be.
func TestShortTellsOfColdHours(t *testing.T) {
	cold := func(change func(c *api.Cover)) api.Cover {
		c := tight(ints(0, 1, 0, 1, 0), 2, 2)
		c.Hours[4].Runs = 1
		change(&c)
		return c
	}
	for i, x := range []struct {
		c     api.Cover
		hours []int
	}{
		// Two of the four hours are enough for a stretch; each list of three leaves one spraying of each stretch.
		{cold(func(c *api.Cover) {}), ints(0, 1, 2)}, {cold(func(c *api.Cover) { c.Hours[0].Cold = false }), ints(1, 2)}, {cold(func(c *api.Cover) { c.Hours[0].Cold, c.Hours[2].Cold = false, false }), ints(1)}, {cold(func(c *api.Cover) { c.Hours[1].Cold, c.Hours[3].Cold = false, false }), ints(0)}, {cold(func(c *api.Cover) { c.Hours[1].Cold, c.Hours[2].Cold, c.Hours[3].Cold = false, false, false }), nil},
	} {
		h, l, e := ice.Short(x.c)
		if h != 4 || !slices.Equal(l, x.hours) || e != api.OK {
			t.Error(i, h, l, e)
		}
	}
}

// P2.6: a need is the greatest one of all hours, in parts of a layer that count as a whole one.
func TestNeedOfHours(t *testing.T) {
	for i, x := range []struct {
		change func(c *api.Cover)
		want   int
	}{
		{func(c *api.Cover) {}, 0}, {func(c *api.Cover) { c.Limit = 11 }, 1}, {func(c *api.Cover) { c.Limit = 13 }, 1}, {func(c *api.Cover) { c.Limit = 14 }, 2}, {func(c *api.Cover) { c.Limit = 16 }, 2}, {func(c *api.Cover) { c.Limit = 17 }, 3}, {func(c *api.Cover) { c.Limit, c.Layer = 17, span(7, 100) }, 1}, {func(c *api.Cover) { c.Limit, c.Layer = 17, span(1, 100) }, 7}, {func(c *api.Cover) { c.Limit, c.Base, c.Hours[0].Runs = 2000, 14, 0 }, 0}, {func(c *api.Cover) { c.Limit, c.Base, c.Hours[0].Runs = 2000, 15, 0 }, 1},
		// Below 0 is as thin as it would be: ice of 3 less 16 needs 13 more for nothing at all.
		{func(c *api.Cover) { c.Beds[0].Thick, c.Limit, c.Base = span(3, 3), 0, 0 }, 3},
		// The need of an early hour stays, as what it is of a later one does: 10 and 17 less 10 and 6.
		{func(c *api.Cover) { c.Hours, c.Limit = append(c.Hours, api.Hour{}), 17 }, 3}, {func(c *api.Cover) { c.Hours = append(c.Hours, api.Hour{Melt: span(9, 9)}) }, 3}, {func(c *api.Cover) { c.Hours = append(c.Hours, api.Hour{Runs: 1}) }, 1},
	} {
		if l := mustNeed(t, bare(x.change)); !slices.Equal(l, ints(x.want)) {
			t.Error(i, l)
		}
	}
}
