package ice_test

import (
	"math"
	"testing"

	"kreisel/api"
	"kreisel/ice"
)

// far are numbers that no field allows.
var far = []int{math.MinInt, math.MinInt + 1, math.MinInt32, -1, math.MaxInt32 + 1, math.MaxInt - 1, math.MaxInt}

// A number is one of a cover, and from where to where it may be in the chapter's cover, if nothing else is changed.
type number struct {
	of     func(c *api.Cover) *int
	lo, hi int
}

// numbers returns numbers of each kind that a cover has.
func numbers() []number {
	return []number{
		{func(c *api.Cover) *int { return &c.Beds[1].Thick.Lo }, 0, 300}, {func(c *api.Cover) *int { return &c.Beds[1].Thick.Hi }, 290, api.MaxThick},
		{func(c *api.Cover) *int { return &c.Beds[0].Sun }, 0, api.MaxSun}, {func(c *api.Cover) *int { return &c.Beds[2].Sun }, 0, api.MaxSun},
		{func(c *api.Cover) *int { return &c.Hours[1].Melt.Lo }, 0, 5}, {func(c *api.Cover) *int { return &c.Hours[1].Melt.Hi }, 4, api.MaxMelt},
		{func(c *api.Cover) *int { return &c.Hours[0].Runs }, 0, api.MaxRuns}, {func(c *api.Cover) *int { return &c.Hours[2].Runs }, 0, api.MaxRuns},
		{func(c *api.Cover) *int { return &c.Hours[0].Crew }, 0, api.MaxStretches}, {func(c *api.Cover) *int { return &c.Hours[2].Crew }, 0, api.MaxStretches},
		{func(c *api.Cover) *int { return &c.Wear.Lo }, 0, 2}, {func(c *api.Cover) *int { return &c.Wear.Hi }, 1, api.MaxWear},
		{func(c *api.Cover) *int { return &c.Layer.Lo }, 1, 25}, {func(c *api.Cover) *int { return &c.Layer.Hi }, 20, api.MaxLayer},
		{func(c *api.Cover) *int { return &c.Rate }, 0, api.MaxRate}, {func(c *api.Cover) *int { return &c.Limit }, 200, api.MaxThick}, {func(c *api.Cover) *int { return &c.Base }, 0, 260},
	}
}

// P2.1, R5: each number has its ends, and however far it is beyond them is the same error.
func TestCheckOfNumbers(t *testing.T) {
	for i, x := range numbers() {
		for _, n := range append([]int{x.lo, x.lo + 1, x.hi - 1, x.hi, x.lo - 1, x.hi + 1}, far...) {
			c := chapter()
			*x.of(&c) = n
			want := api.ErrIce
			if n >= x.lo && n <= x.hi {
				want = api.OK
			}
			if e := ice.Check(c); e != want {
				t.Error(i, n, e)
			}
		}
	}
}

func TestCheckOfSpans(t *testing.T) {
	for i, x := range []struct {
		change func(c *api.Cover)
		e      api.Errno
	}{
		{func(c *api.Cover) { c.Beds[0].Thick = span(0, 0) }, api.OK}, {func(c *api.Cover) { c.Beds[0].Thick = span(api.MaxThick, api.MaxThick) }, api.OK}, {func(c *api.Cover) { c.Beds[0].Thick = span(api.MaxThick+1, api.MaxThick+1) }, api.ErrIce}, {func(c *api.Cover) { c.Beds[2].Thick = span(301, 300) }, api.ErrIce},
		{func(c *api.Cover) { c.Hours[2].Melt = span(0, 0) }, api.OK}, {func(c *api.Cover) { c.Hours[2].Melt = span(api.MaxMelt, api.MaxMelt) }, api.OK}, {func(c *api.Cover) { c.Hours[2].Melt = span(2, 1) }, api.ErrIce},
		{func(c *api.Cover) { c.Wear = span(0, 0) }, api.OK}, {func(c *api.Cover) { c.Wear = span(api.MaxWear, api.MaxWear) }, api.OK}, {func(c *api.Cover) { c.Layer = span(1, 1) }, api.OK}, {func(c *api.Cover) { c.Layer = span(api.MaxLayer, api.MaxLayer) }, api.OK}, {func(c *api.Cover) { c.Layer = span(0, 0) }, api.ErrIce},
		{func(c *api.Cover) { c.Limit, c.Base = 0, 0 }, api.OK}, {func(c *api.Cover) { c.Limit, c.Base = api.MaxThick, api.MaxThick }, api.OK}, {func(c *api.Cover) { c.Limit, c.Base = api.MaxThick+1, api.MaxThick+1 }, api.ErrIce}, {func(c *api.Cover) { c.Limit, c.Base = -1, -1 }, api.ErrIce}, {func(c *api.Cover) { c.Limit, c.Base = 199, 200 }, api.ErrIce}, {func(c *api.Cover) { c.Limit = 200 }, api.OK},
		{func(c *api.Cover) { c.Beds = nil }, api.ErrIce}, {func(c *api.Cover) { c.Beds = c.Beds[:2] }, api.ErrIce}, {func(c *api.Cover) { c.Beds = append(c.Beds, api.Bed{}) }, api.ErrIce},
		{func(c *api.Cover) { c.Track.Stretches = c.Track.Stretches[:2] }, api.ErrIce}, {func(c *api.Cover) { c.Track.Stretches, c.Beds = c.Track.Stretches[:1], c.Beds[:1] }, api.OK},
		// The track is checked first.
		{func(c *api.Cover) { c.Track.Stretches = nil }, api.ErrTrack}, {func(c *api.Cover) { c.Track.Stretches, c.Beds = nil, nil }, api.ErrTrack}, {func(c *api.Cover) { c.Track.Stretches[2].Id, c.Rate = 5, -1 }, api.ErrTrack}, {func(c *api.Cover) { *c = api.Cover{} }, api.ErrTrack},
	} {
		if e := ice.Check(chapter(x.change)); e != x.e {
			t.Error(i, e)
		}
	}
}

func TestCheckOfManyHours(t *testing.T) {
	for n := range 20 {
		want := api.ErrIce
		if n >= 1 && n <= api.MaxHours {
			want = api.OK
		}
		if e := ice.Check(chapter(func(c *api.Cover) { c.Hours = make([]api.Hour, n) })); e != want {
			t.Error(n, e)
		}
	}
}

// A result is what a call returned, and whether all of it but the error was zero.
type result struct {
	name string
	e    api.Errno
	zero bool
}

// results returns what all calls but Check return.
func results(c api.Cover, plan [][]int, stretch, hour, at int, thick api.Span) []result {
	nothing := api.Span{}
	a, e := ice.Loss(c, stretch, hour)
	b, f := ice.Thick(c, plan, stretch, hour)
	d, g := ice.Thin(c, plan)
	h, i := ice.Safe(c, plan)
	j, k := ice.Most(c, plan, hour)
	l, m := ice.Water(c, plan)
	n, o := ice.Need(c)
	p, q := ice.Plan(c)
	r, s, u := ice.Short(c)
	v, w := ice.Drill(c, at, thick)
	return []result{
		{"Loss", e, a == nothing}, {"Thick", f, b == nothing}, {"Thin", g, len(d) == 0}, {"Safe", i, h == 0}, {"Most", k, j == 0}, {"Water", m, l == nothing}, {"Need", o, len(n) == 0}, {"Plan", q, len(p) == 0}, {"Short", u, r == 0 && len(s) == 0}, {"Drill", w, sameCover(v, api.Cover{})},
	}
}

// P2.1, R1, R2: a cover's errors come first, the track's before its own; nothing is told with an error.
func TestErrorsOfCoversComeFirst(t *testing.T) {
	for i, x := range []struct {
		change func(c *api.Cover)
		e      api.Errno
	}{
		{func(c *api.Cover) { c.Track.Stretches[0].Long = span(0, 1) }, api.ErrTrack}, {func(c *api.Cover) { c.Track.Stretches[0].Wall, c.Rate = -1, -1 }, api.ErrTrack},
		{func(c *api.Cover) { c.Rate = -1 }, api.ErrIce}, {func(c *api.Cover) { c.Hours = nil }, api.ErrIce}, {func(c *api.Cover) { c.Beds = c.Beds[1:] }, api.ErrIce},
	} {
		c := chapter(x.change)
		for _, r := range append(results(c, nil, -1, -1, -1, span(1, 0)), results(c, chapterPlan(), 0, 0, 100, span(300, 305))...) {
			if r.e != x.e || !r.zero {
				t.Error(i, r)
			}
		}
	}
}

// R1, R2: then comes the plan's error, and then those of other arguments.
func TestErrorsOfPlansComeSecond(t *testing.T) {
	expect := func(want map[string]api.Errno, got []result) {
		t.Helper()
		for _, r := range got {
			if e, ok := want[r.name]; ok && (r.e != e || !r.zero) {
				t.Error(r, e)
			}
		}
	}
	wrong := lists(ints(2, 1), nil, nil)
	expect(map[string]api.Errno{"Loss": api.ErrArg, "Thick": api.ErrPlan, "Thin": api.ErrPlan, "Safe": api.ErrPlan, "Most": api.ErrPlan, "Water": api.ErrPlan}, results(chapter(), wrong, -1, -1, 0, span(0, 0)))
	expect(map[string]api.Errno{"Loss": api.ErrArg, "Thick": api.ErrArg, "Most": api.ErrArg}, results(chapter(), chapterPlan(), -1, -1, 0, span(0, 0)))
	// Without hands there is no plan; also an hour that is none is told before there is no number of sleds.
	none := chapter(func(c *api.Cover) { c.Beds[0].Thick, c.Base = span(0, 0), 100 })
	expect(map[string]api.Errno{"Most": api.ErrArg, "Plan": api.ErrBad}, results(none, make([][]int, 3), 0, 3, 0, span(0, 0)))
	expect(map[string]api.Errno{"Most": api.ErrNone}, results(none, make([][]int, 3), 0, 0, 0, span(0, 0)))
	expect(map[string]api.Errno{"Short": api.ErrNone}, results(chapter(), chapterPlan(), 0, 0, 0, span(0, 0)))
}

// P2.2: which plans are valid.
func TestValidPlans(t *testing.T) {
	for i, x := range []struct {
		plan [][]int
		ok   bool
	}{
		{make([][]int, 3), true}, {lists(ints(), nil, ints()), true}, {chapterPlan(), true}, {lists(ints(2), ints(0, 2), nil), true}, {lists(ints(0, 1), ints(0, 1), nil), true},
		{nil, false}, {lists(), false}, {make([][]int, 2), false}, {make([][]int, 4), false}, {lists(ints(0), nil, nil, nil), false},
		// Too many; twice; not in order; no stretch; warm.
		{lists(ints(0, 1, 2), nil, nil), false}, {lists(nil, ints(0, 1, 2), nil), false}, {lists(ints(1, 1), nil, nil), false}, {lists(ints(1, 0), nil, nil), false}, {lists(ints(3), nil, nil), false}, {lists(ints(-1), nil, nil), false}, {lists(ints(0, 3), nil, nil), false}, {lists(ints(-1, 0), nil, nil), false}, {lists(ints(math.MinInt), nil, nil), false}, {lists(ints(math.MaxInt), nil, nil), false}, {lists(nil, nil, ints(0)), false}, {lists(nil, nil, ints(5)), false}, {lists(make([]int, 1000), nil, nil), false},
	} {
		for _, r := range results(chapter(), x.plan, 0, 0, 0, span(0, 0)) {
			switch r.name {
			case "Thick", "Thin", "Safe", "Most", "Water":
				if (r.e == api.OK) != x.ok || !x.ok && (r.e != api.ErrPlan || !r.zero) {
					t.Error(i, r)
				}
			}
		}
	}
	// No longer than the hour's Crew, which may be more than there are stretches.
	many := chapter(func(c *api.Cover) { c.Hours[0].Crew, c.Hours[1].Crew = api.MaxStretches, 0 })
	if _, e := ice.Thin(many, lists(ints(0, 1, 2), nil, nil)); e != api.OK {
		t.Error(e)
	}
	if _, e := ice.Thin(many, lists(ints(0, 1, 2, 2), nil, nil)); e != api.ErrPlan {
		t.Error(e)
	}
	if _, e := ice.Thin(many, lists(nil, ints(0), nil)); e != api.ErrPlan {
		t.Error(e)
	}
}

// R5: stretches and hours that are none.
func TestArgumentsFarOutside(t *testing.T) {
	for _, n := range append([]int{3, 4}, far...) {
		if s, e := ice.Loss(chapter(), n, 0); s != span(0, 0) || e != api.ErrArg {
			t.Error(n, s, e)
		}
		if s, e := ice.Loss(chapter(), 0, n); s != span(0, 0) || e != api.ErrArg {
			t.Error(n, s, e)
		}
		if s, e := ice.Thick(chapter(), chapterPlan(), n, 0); s != span(0, 0) || e != api.ErrArg {
			t.Error(n, s, e)
		}
		if s, e := ice.Thick(chapter(), chapterPlan(), 0, n); n != 3 && (s != span(0, 0) || e != api.ErrArg) || n == 3 && e != api.OK {
			t.Error(n, s, e)
		}
		if m, e := ice.Most(chapter(), chapterPlan(), n); m != 0 || e != api.ErrArg {
			t.Error(n, m, e)
		}
	}
}
