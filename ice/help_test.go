package ice_test

import (
	"math/rand/v2"
	"slices"
	"testing"

	"kreisel/api"
	"kreisel/ice"
)

func span(lo, hi int) api.Span { return api.Span{Lo: lo, Hi: hi} }

func ints(l ...int) []int { return l }

func lists(l ...[]int) [][]int { return l }

func samePlan(a, b [][]int) bool { return slices.EqualFunc(a, b, slices.Equal[[]int]) }

// chapter returns the cover of the chapter's examples, changed.
func chapter(change ...func(c *api.Cover)) api.Cover {
	c := api.Cover{
		Track: api.Track{Stretches: []api.Stretch{
			{Id: 3, Long: span(4000, 4100), Fall: span(400, 420), Wall: 100},
			{Id: 5, Long: span(2000, 2200), Fall: span(150, 160), Side: api.SideLeft, Radius: span(1500, 1600), Wall: 900},
			{Id: 8, Long: span(3000, 3000), Fall: span(300, 330)},
		}},
		Beds:  []api.Bed{{Thick: span(300, 310), Sun: 1}, {Thick: span(290, 300), Sun: 2}, {Thick: span(300, 300)}},
		Hours: []api.Hour{{Melt: span(2, 3), Runs: 10, Crew: 2, Cold: true}, {Melt: span(4, 5), Crew: 2, Cold: true}, {Melt: span(1, 2), Runs: 12, Crew: 2}},
		Wear:  span(1, 2), Layer: span(20, 25), Rate: 3, Limit: 260, Base: 200,
	}
	for _, x := range change {
		x(&c)
	}
	return c
}

// chapterPlan returns the plan of the chapter's examples.
func chapterPlan() [][]int { return lists(ints(0, 1), ints(1, 2), nil) }

// copied returns a cover that shares no memory with another one.
func copied(c api.Cover) api.Cover {
	c.Track.Stretches = slices.Clone(c.Track.Stretches)
	c.Beds = slices.Clone(c.Beds)
	c.Hours = slices.Clone(c.Hours)
	return c
}

// changed returns a copy of a cover that is changed.
func changed(c api.Cover, change func(c *api.Cover)) api.Cover {
	c = copied(c)
	change(&c)
	return c
}

func sameCover(a, b api.Cover) bool {
	rest := a.Wear == b.Wear && a.Layer == b.Layer && a.Rate == b.Rate && a.Limit == b.Limit && a.Base == b.Base
	return rest && slices.Equal(a.Track.Stretches, b.Track.Stretches) && slices.Equal(a.Beds, b.Beds) && slices.Equal(a.Hours, b.Hours)
}

// dice throw numbers that are the same in each run of the tests.
type dice struct{ *rand.Rand }

func newDice(seed uint64) dice { return dice{rand.New(rand.NewPCG(seed, 2))} }

func (d dice) from(lo, hi int) int { return lo + d.IntN(hi-lo+1) }

// span throws a span with ends from lo to hi that is at most wide.
func (d dice) span(lo, hi, wide int) api.Span {
	l := d.from(lo, hi)
	return span(l, min(hi, l+d.from(0, wide)))
}

// small throws a cover whose truths and plans can all be gone through.
func (d dice) small(stretches, hours int) api.Cover {
	c := api.Cover{Wear: d.span(0, 2, 1), Layer: d.span(1, 9, 1), Rate: d.from(0, 3), Limit: d.from(0, 12)}
	c.Base = d.from(0, c.Limit)
	for i := range d.from(1, stretches) {
		c.Track.Stretches = append(c.Track.Stretches, api.Stretch{Id: 2*i + d.from(0, 1), Long: d.span(1, 6, 3)})
		c.Beds = append(c.Beds, api.Bed{Thick: d.span(8, 26, 2), Sun: d.from(0, 2)})
	}
	for range d.from(1, hours) {
		c.Hours = append(c.Hours, api.Hour{Melt: d.span(0, 3, 1), Runs: d.from(0, 1) * d.from(0, 4), Crew: d.from(0, 3), Cold: d.from(0, 4) > 0})
	}
	return c
}

// great throws a cover as large as is allowed, for which there may be a plan with much to spray.
func (d dice) great() api.Cover {
	c := api.Cover{Wear: d.span(0, 2, 1), Layer: d.span(30, 60, 30), Rate: d.from(0, api.MaxRate), Limit: d.from(100, 200)}
	c.Base = d.from(c.Limit/2, c.Limit)
	for i := range d.from(8, api.MaxStretches) {
		c.Track.Stretches = append(c.Track.Stretches, api.Stretch{Id: i, Long: d.span(1, api.MaxLong, 500)})
		c.Beds = append(c.Beds, api.Bed{Thick: d.span(160, 280, 20), Sun: d.from(0, 5)})
	}
	for range d.from(6, api.MaxHours) {
		c.Hours = append(c.Hours, api.Hour{Melt: d.span(0, 6, 2), Runs: d.from(0, 1) * d.from(0, 10), Crew: d.from(0, 9), Cold: d.from(0, 5) > 0})
	}
	return c
}

// tense throws a cover whose stretches need sprayings by many hours, with about as many hands as it takes.
func (d dice) tense(stretches, hours int) api.Cover {
	c := api.Cover{Wear: d.span(0, 3, 3), Layer: d.span(10, 12, 3), Rate: 1, Limit: 1000, Base: d.from(900, 1000)}
	n, m := d.from(2, stretches), d.from(4, hours)
	for i := range n {
		c.Track.Stretches = append(c.Track.Stretches, api.Stretch{Id: i, Long: span(1, 1)})
		c.Beds = append(c.Beds, api.Bed{Thick: d.span(1000, 1030, 5), Sun: d.from(0, 3)})
	}
	for h := range m {
		c.Hours = append(c.Hours, api.Hour{Melt: d.span(0, min(h, 1)*6, 3), Runs: d.from(0, 1) * min(h, 1), Cold: d.from(0, 7) > 0})
	}
	needs := 0
	for s := range n {
		needs += needFor(c, s, m-1)
	}
	for h := range m {
		c.Hours[h].Crew = d.from(0, min(n, 1+3*needs/m))
	}
	return c
}

// plan throws a valid plan of a cover.
func (d dice) plan(c api.Cover) [][]int {
	plan := make([][]int, len(c.Hours))
	for h, hour := range c.Hours {
		if !hour.Cold {
			continue
		}
		some := d.Perm(len(c.Beds))[:min(len(c.Beds), d.from(0, hour.Crew))]
		slices.Sort(some)
		plan[h] = some
	}
	return plan
}

// A truth is a truth of a cover, by its numbers.
type truth struct {
	thick, melt []int
	wear, layer int
}

// choices goes through all choices of a number of each span.
func choices(spans []api.Span, do func(numbers []int)) {
	numbers := make([]int, len(spans))
	var choose func(i int)
	choose = func(i int) {
		if i == len(spans) {
			do(numbers)
			return
		}
		for n := spans[i].Lo; n <= spans[i].Hi; n++ {
			numbers[i] = n
			choose(i + 1)
		}
	}
	choose(0)
}

// truths goes through all truths of a cover.
func truths(c api.Cover, do func(x truth)) {
	spans := []api.Span{c.Wear, c.Layer}
	for _, b := range c.Beds {
		spans = append(spans, b.Thick)
	}
	for _, h := range c.Hours {
		spans = append(spans, h.Melt)
	}
	n := len(c.Beds)
	choices(spans, func(l []int) { do(truth{wear: l[0], layer: l[1], thick: l[2 : 2+n], melt: l[2+n:]}) })
}

// worst returns the truth in which there is least ice.
func worst(c api.Cover) truth {
	x := truth{wear: c.Wear.Hi, layer: c.Layer.Lo}
	for _, b := range c.Beds {
		x.thick = append(x.thick, b.Thick.Lo)
	}
	for _, h := range c.Hours {
		x.melt = append(x.melt, h.Melt.Hi)
	}
	return x
}

func (x truth) loss(c api.Cover, stretch, hour int) int {
	return c.Beds[stretch].Sun*x.melt[hour] + c.Hours[hour].Runs*x.wear
}

// at returns how thick a stretch is at the beginning of each hour, and after all of them.
func (x truth) at(c api.Cover, plan [][]int, stretch int) []int {
	all := []int{x.thick[stretch]}
	for h := range c.Hours {
		n := max(0, all[h]-x.loss(c, stretch, h))
		if slices.Contains(plan[h], stretch) {
			n += x.layer
		}
		all = append(all, n)
	}
	return all
}

func tooThin(c api.Cover, hour, thick int) bool {
	return c.Hours[hour].Runs > 0 && thick < c.Limit || thick < c.Base
}

// thin returns all pairs of an hour and a stretch that is too thin in it.
func (x truth) thin(c api.Cover, plan [][]int) [][2]int {
	var pairs [][2]int
	for h := range c.Hours {
		for s := range c.Beds {
			if tooThin(c, h, x.at(c, plan, s)[h]-x.loss(c, s, h)) {
				pairs = append(pairs, [2]int{h, s})
			}
		}
	}
	return pairs
}

// needFor returns the need of a stretch for an hour, word for word.
func needFor(c api.Cover, stretch, hour int) int {
	x := worst(c)
	start := x.thick[stretch]
	for need := 0; ; need++ {
		x.thick[stretch] = start + need*c.Layer.Lo
		at, enough := x.at(c, make([][]int, len(c.Hours)), stretch), true
		for h := range hour + 1 {
			enough = enough && !tooThin(c, h, at[h]-x.loss(c, stretch, h))
		}
		if enough {
			return need
		}
	}
}

// needsOf returns the needs of all stretches for all hours.
func needsOf(c api.Cover) [][]int {
	var all [][]int
	for s := range c.Beds {
		var list []int
		for h := range c.Hours {
			list = append(list, needFor(c, s, h))
		}
		all = append(all, list)
	}
	return all
}

// upTo returns a cover as if there were no hours after one.
func upTo(c api.Cover, hour int) api.Cover {
	c = copied(c)
	c.Hours = c.Hours[:hour+1]
	return c
}

// setOf returns the numbers whose bits are set.
func setOf(bits int) []int {
	var list []int
	for n := range 16 {
		if bits>>n&1 == 1 {
			list = append(list, n)
		}
	}
	return list
}

// plans goes through all valid plans of a cover.
func plans(c api.Cover, do func(plan [][]int)) {
	plan := make([][]int, len(c.Hours))
	var choose func(h int)
	choose = func(h int) {
		if h == len(c.Hours) {
			do(plan)
			return
		}
		for bits := range 1 << len(c.Beds) {
			plan[h] = setOf(bits)
			if len(plan[h]) == 0 || c.Hours[h].Cold && len(plan[h]) <= c.Hours[h].Crew {
				choose(h + 1)
			}
		}
	}
	choose(0)
}

// counts returns how often each stretch is sprayed.
func counts(c api.Cover, plan [][]int) []int {
	list := make([]int, len(c.Beds))
	for _, l := range plan {
		for _, s := range l {
			list[s]++
		}
	}
	return list
}

func sum(list []int) int {
	all := 0
	for _, n := range list {
		all += n
	}
	return all
}

// order returns a plan as a list that is greater the more it is sprayed at the first hour and stretch at which plans differ.
func order(c api.Cover, plan [][]int) []int {
	var list []int
	for _, l := range plan {
		for s := range c.Beds {
			sprayed := 0
			if slices.Contains(l, s) {
				sprayed = 1
			}
			list = append(list, sprayed)
		}
	}
	return list
}

// isShort tells whether hours are short for the needs for an hour and those before it, word for word.
func isShort(c api.Cover, needs [][]int, last int, hours []int) bool {
	sprayings, crews := 0, 0
	for s := range c.Beds {
		most := 0
		for h := range last + 1 {
			others := 0
			for k := range h {
				if c.Hours[k].Cold && !slices.Contains(hours, k) {
					others++
				}
			}
			most = max(most, needs[s][h]-others)
		}
		sprayings += most
	}
	for _, h := range hours {
		if c.Hours[h].Cold {
			crews += c.Hours[h].Crew
		}
	}
	return sprayings > crews
}

// shortest returns the first one of the lists with the fewest hours that are short, and whether there is one.
func shortest(c api.Cover, needs [][]int, last int) ([]int, bool) {
	var all [][]int
	for bits := range 1 << last {
		if hours := setOf(bits); isShort(c, needs, last, hours) {
			all = append(all, hours)
		}
	}
	if len(all) == 0 {
		return nil, false
	}
	return slices.MinFunc(all, func(a, b []int) int {
		if len(a) != len(b) {
			return len(a) - len(b)
		}
		return slices.Compare(a, b)
	}), true
}

// hull is the least span that has all numbers put into it.
type hull struct {
	span api.Span
	any  bool
}

func (h *hull) put(n int) {
	if !h.any {
		h.span, h.any = span(n, n), true
	}
	h.span = span(min(h.span.Lo, n), max(h.span.Hi, n))
}

func mustThick(t *testing.T, c api.Cover, plan [][]int, stretch, hour int) api.Span {
	t.Helper()
	s, e := ice.Thick(c, plan, stretch, hour)
	if e != api.OK {
		t.Fatal("Thick:", c, plan, stretch, hour, e)
	}
	return s
}

func mustSafe(t *testing.T, c api.Cover, plan [][]int) uint8 {
	t.Helper()
	k, e := ice.Safe(c, plan)
	if e != api.OK {
		t.Fatal("Safe:", c, plan, e)
	}
	return k
}

func mustNeed(t *testing.T, c api.Cover) []int {
	t.Helper()
	l, e := ice.Need(c)
	if e != api.OK {
		t.Fatal("Need:", c, e)
	}
	return l
}

func mustWater(t *testing.T, c api.Cover, plan [][]int) api.Span {
	t.Helper()
	w, e := ice.Water(c, plan)
	if e != api.OK {
		t.Fatal("Water:", c, plan, e)
	}
	return w
}
