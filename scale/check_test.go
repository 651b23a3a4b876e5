package scale_test

import (
	"math"
	"slices"
	"testing"

	"kreisel/api"
	"kreisel/scale"
)

// far are numbers that no field allows.
var far = []int{math.MinInt, math.MinInt + 1, math.MinInt32, math.MaxInt32 + 1, math.MaxInt - 1, math.MaxInt}

// An asked is all that a call may be asked about.
type asked struct {
	b     api.Bay
	g     api.Gear
	n     api.Norm
	total int
	list  []int
}

// ask returns what the chapter's examples ask about.
func ask() asked { return asked{hall(), gear(), norm(), 307000, ints(5000, 2000, 1000)} }

// plain returns what may be asked of a scale that showed nothing but 0, whatever its steps are.
func plain() asked {
	x := ask()
	x.b = bay(api.Scale{Id: 3, Step: 7, Trials: []api.Trial{{}}})
	x.g.Loads = []api.Load{{Scale: 3}}
	return x
}

// first returns the scale of which something is asked.
func (x *asked) first() *api.Scale { return &x.b.Scales[0] }

// A number is one that is asked about, and from where to where it may be.
type number struct {
	name   string
	of     func(x *asked) *int
	lo, hi int
	e      api.Errno
}

func numbers() []number {
	const most = 2 * api.MaxWeight
	return []number{
		{"Id", func(x *asked) *int { x.g.Loads = nil; return &x.first().Id }, 0, api.MaxId, api.ErrScale},
		{"Step", func(x *asked) *int { return &x.first().Step }, 1, api.MaxStep, api.ErrScale},
		{"Weight of a trial", func(x *asked) *int { return &x.first().Trials[0].Weight }, 0, api.MaxWeight, api.ErrScale},
		{"Shown of a trial", func(x *asked) *int { x.first().Step = 1; return &x.first().Trials[0].Shown }, -most, most, api.ErrScale},
		{"Shown of a load", func(x *asked) *int { x.first().Step = 1; return &x.g.Loads[0].Shown }, -most, most, api.ErrGear},
		{"Added", func(x *asked) *int { return &x.g.Added }, 0, api.MaxWeight, api.ErrGear},
		{"Base", func(x *asked) *int { return &x.g.Base }, -api.MaxTemper, api.MaxTemper, api.ErrGear},
		{"Runners", func(x *asked) *int { return &x.g.Runners[1] }, -api.MaxTemper, api.MaxTemper, api.ErrGear},
		{"Jitter", func(x *asked) *int { return &x.g.Jitter }, 0, api.MaxTemper, api.ErrGear},
		{"Strokes", func(x *asked) *int { return &x.g.Strokes[1] }, 0, api.MaxHard, api.ErrGear},
		{"Spread", func(x *asked) *int { return &x.g.Spread }, 0, api.MaxHard, api.ErrGear},
		{"Added of a norm", func(x *asked) *int { return &x.n.Added }, 0, api.MaxWeight, api.ErrNorm},
		{"Warm of a norm", func(x *asked) *int { return &x.n.Warm }, -api.MaxTemper, api.MaxTemper, api.ErrNorm},
		{"a piece", func(x *asked) *int { return &x.list[2] }, 0, api.MaxWeight, api.ErrArg},
	}
}

// A result is what a call returned, as a list of numbers.
type result struct {
	name    string
	numbers []int
	e       api.Errno
}

func same(a, b result) bool {
	return a.name == b.name && a.e == b.e && slices.Equal(a.numbers, b.numbers)
}

// flat returns the ends of spans.
func flat(list []api.Span) []int {
	var ends []int
	for _, s := range list {
		ends = append(ends, s.Lo, s.Hi)
	}
	return ends
}

// ofGear calls all functions that have a bay and gear, those that ask nothing else first.
func ofGear(x asked) []result {
	totals, e1 := scale.Totals(x.b, x.g)
	truth, e2 := scale.Truth(x.b, x.g, x.total)
	weighed := truth.Weights
	for _, t := range truth.Tunes {
		weighed = append(slices.Clip(weighed), t[0], t[1])
	}
	parts, whole, e3 := scale.Judge(x.b, x.g, x.n)
	told := ints(int(whole))
	for _, p := range parts {
		told = append(told, int(p))
	}
	again, e4 := scale.Again(x.b, x.g, x.g, x.n)
	ballast, e5 := scale.Ballast(x.b, x.g, x.n, x.list)
	return []result{
		{"Check", nil, scale.Check(x.b, x.g)}, {"Totals", flat(totals), e1}, {"Truth", weighed, e2}, {"Judge", told, e3}, {"Again", ints(int(again)), e4}, {"Ballast", ballast, e5},
	}
}

// ofOne calls all functions that have just a scale, or gear without its loads.
func ofOne(s api.Scale, weight int, g api.Gear) []result {
	tunes, e1 := scale.Tunes(s)
	var told []int
	for _, t := range tunes {
		told = append(told, t.Gain, t.Off.Lo, t.Off.Hi)
	}
	reads, e2 := scale.Reads(s, weight)
	warm, e3 := scale.Warm(g)
	hard, e4 := scale.Hard(g)
	return []result{{"Tunes", told, e1}, {"Reads", ints(reads.Lo, reads.Hi), e2}, {"Warm", flat(warm), e3}, {"Hard", ints(hard.Lo, hard.Hi), e4}}
}

// zero tells whether all numbers are 0.
func zero(numbers []int) bool {
	return !slices.ContainsFunc(numbers, func(n int) bool { return n != 0 })
}

// errorsOfArguments returns which errors of its arguments each function tells, in their order.
func errorsOfArguments() map[string][]api.Errno {
	two := []api.Errno{api.ErrScale, api.ErrGear}
	three := []api.Errno{api.ErrScale, api.ErrGear, api.ErrNorm}
	return map[string][]api.Errno{
		"Check": two, "Totals": two, "Truth": two, "Judge": three, "Again": three, "Ballast": {api.ErrScale, api.ErrGear, api.ErrNorm, api.ErrArg},
		"Tunes": {api.ErrScale}, "Reads": {api.ErrScale, api.ErrArg}, "Warm": {api.ErrGear}, "Hard": {api.ErrGear},
	}
}

// checked reports each call that does not return the error of an argument that it has to, or returns one if there is none.
func checked(t *testing.T, about any, list []result, want api.Errno) {
	t.Helper()
	for _, r := range list {
		own := errorsOfArguments()[r.name]
		if slices.Contains(own, want) && (r.e != want || !zero(r.numbers)) || !slices.Contains(own, want) && slices.Contains(own, r.e) {
			t.Error(about, r, want)
		}
	}
}

// checkedAll reports it of all functions, of which two have the first scale, and two have gear whatever its loads are.
func checkedAll(t *testing.T, about any, x asked, want api.Errno) {
	t.Helper()
	checked(t, about, ofGear(x), want)
	one := ofOne(*x.first(), 5, x.g)
	if want == api.ErrArg || want == api.ErrGear && isOfLoads(x) {
		want = api.OK
	}
	checked(t, about, one, want)
}

// isOfLoads tells whether gear is valid without its loads.
func isOfLoads(x asked) bool {
	x.g.Loads = nil
	return scale.Check(api.Bay{}, x.g) == api.OK
}

// P4.1, P4.5, P4.6, P4.8, R5: each number has its ends, and however far it is beyond them is the same error.
func TestNumbersHaveEnds(t *testing.T) {
	for _, f := range numbers() {
		for _, n := range []int{f.lo, f.lo + 1, f.hi - 1, f.hi} {
			x := plain()
			*f.of(&x) = n
			checkedAll(t, []any{f.name, n}, x, api.OK)
		}
		for _, n := range append([]int{f.lo - 1, f.hi + 1}, far...) {
			x := plain()
			*f.of(&x) = n
			checkedAll(t, []any{f.name, n}, x, f.e)
		}
	}
}

// P4.1, P4.6, R5: each span has its ends, in order.
func TestSpansHaveEnds(t *testing.T) {
	for _, f := range []struct {
		name   string
		of     func(x *asked) *api.Span
		lo, hi int
		e      api.Errno
	}{
		{"Gain", func(x *asked) *api.Span { return &x.first().Gain }, -api.MaxGain, api.MaxGain, api.ErrScale},
		{"Off", func(x *asked) *api.Span { return &x.first().Off }, -api.MaxOff, api.MaxOff, api.ErrScale},
		{"Total", func(x *asked) *api.Span { return &x.n.Total }, 0, 10 * api.MaxWeight, api.ErrNorm},
		{"Hard", func(x *asked) *api.Span { return &x.n.Hard }, 0, api.MaxHard, api.ErrNorm},
	} {
		middle := (f.lo + f.hi) / 2
		right := spans(span(f.lo, f.hi), span(f.lo, f.lo), span(f.hi, f.hi), span(middle, middle))
		wrong := spans(span(f.hi, f.lo), span(middle+1, middle), span(f.lo-1, f.hi), span(f.lo, f.hi+1), span(f.lo-1, f.lo-1), span(f.hi+1, f.hi+1))
		for _, n := range far {
			wrong = append(wrong, span(n, f.hi), span(f.lo, n), span(n, n))
		}
		for _, s := range right {
			x := plain()
			*f.of(&x) = s
			checkedAll(t, []any{f.name, s}, x, api.OK)
		}
		for _, s := range wrong {
			x := plain()
			*f.of(&x) = s
			checkedAll(t, []any{f.name, s}, x, f.e)
		}
	}
}

// P4.1, P4.8: lists are not longer than their limits.
func TestListsHaveLimits(t *testing.T) {
	for _, f := range []struct {
		name  string
		most  int
		fill  func(x *asked, n int)
		wrong api.Errno
	}{
		{"Trials", api.MaxTrials, func(x *asked, n int) { x.first().Trials = make([]api.Trial, n) }, api.ErrScale},
		{"Loads", api.MaxLoads, func(x *asked, n int) { x.g.Loads = slices.Repeat(x.g.Loads, n) }, api.ErrGear},
		{"Runners", api.MaxRunners, func(x *asked, n int) { x.g.Runners = make([]int, n) }, api.ErrGear},
		{"Strokes", api.MaxStrokes, func(x *asked, n int) { x.g.Strokes = slices.Repeat(ints(412), n) }, api.ErrGear},
		{"pieces", api.MaxPieces, func(x *asked, n int) { x.list = make([]int, n) }, api.ErrArg},
	} {
		for n := range f.most + 3 {
			x, want := plain(), api.OK
			if n > f.most {
				want = f.wrong
			}
			f.fill(&x, n)
			checkedAll(t, []any{f.name, n}, x, want)
		}
	}
	for n := range api.MaxScales + 3 {
		x, want := plain(), api.OK
		for i := 1; i < n; i++ {
			x.b.Scales = append(x.b.Scales, api.Scale{Id: 3 + i, Step: 1})
		}
		if n > api.MaxScales {
			want = api.ErrScale
		}
		checked(t, n, ofGear(x), want)
	}
}

// P4.1: scales are by Id, no two with the same one; loads are on one of them; what is shown is whole steps.
func TestScalesByIdAndWholeSteps(t *testing.T) {
	named := func(x *asked, id int) { x.b.Scales[0].Id, x.g.Loads[0].Scale = id, id }
	for i, x := range []struct {
		change func(x *asked)
		e      api.Errno
	}{
		{func(x *asked) {}, api.OK},
		{func(x *asked) { named(x, 4) }, api.OK},
		{func(x *asked) { named(x, 5) }, api.ErrScale},
		{func(x *asked) { named(x, 6) }, api.ErrScale},
		{func(x *asked) { named(x, 0) }, api.OK},
		{func(x *asked) { named(x, -1) }, api.ErrScale},
		{func(x *asked) { slices.Reverse(x.b.Scales) }, api.ErrScale},
		// Each scale counts, and not just the first one.
		{func(x *asked) { x.b.Scales[1].Off.Lo = 1 }, api.ErrScale},
		{func(x *asked) { x.b.Scales[1].Trials = []api.Trial{{}, {}, {Weight: -1}} }, api.ErrScale},
		{func(x *asked) { x.g.Loads[1].Scale = 4 }, api.ErrGear},
		{func(x *asked) { x.g.Loads[0].Scale = math.MinInt }, api.ErrGear},
		{func(x *asked) { x.g.Loads[0].Scale = math.MaxInt }, api.ErrGear},
		{func(x *asked) { x.b.Scales = nil }, api.ErrGear},
		{func(x *asked) { x.b.Scales[0].Trials[0].Shown = 100005 }, api.ErrScale},
		{func(x *asked) { x.b.Scales[0].Trials[0].Shown = -100005 }, api.ErrScale},
		{func(x *asked) { x.b.Scales[0].Trials[0].Shown = -100010 }, api.OK},
		{func(x *asked) { x.b.Scales[0].Trials[0].Shown = 0 }, api.OK},
		{func(x *asked) { x.g.Loads[1].Shown = 210050 }, api.ErrGear},
		{func(x *asked) { x.g.Loads[1].Shown = -50 }, api.ErrGear},
		{func(x *asked) { x.g.Loads[1].Shown = -100 }, api.OK},
		// Steps that divide what is shown, but are none.
		{func(x *asked) { x.b.Scales[0].Step = -10 }, api.ErrScale},
		{func(x *asked) { x.b.Scales[0].Step = 1000 }, api.ErrScale},
	} {
		y := ask()
		x.change(&y)
		checked(t, i, ofGear(y), x.e)
	}
}

// R1, R2: errors are told in the order of the descriptions, and nothing with them.
func TestErrorsInOrder(t *testing.T) {
	all := []struct {
		make func(x *asked)
		e    api.Errno
		told []string
	}{
		{func(x *asked) { x.b.Scales[1].Step = 0 }, api.ErrScale, []string{"Check", "Totals", "Truth", "Judge", "Again", "Ballast"}},
		{func(x *asked) { x.g.Added = -1 }, api.ErrGear, []string{"Check", "Totals", "Truth", "Judge", "Again", "Ballast"}},
		{func(x *asked) { x.n.Warm = 1001 }, api.ErrNorm, []string{"Judge", "Again", "Ballast"}},
		{func(x *asked) { x.list[0] = -1 }, api.ErrArg, []string{"Ballast"}},
		{func(x *asked) { x.g.Loads[0].Shown = -1000 }, api.ErrNone, []string{"Totals", "Truth", "Judge", "Again", "Ballast"}},
		{func(x *asked) { x.g.Strokes[0] = 100 }, api.ErrBad, []string{"Judge"}},
		{func(x *asked) { x.n.Total.Lo = x.n.Total.Hi }, api.ErrBad, []string{"Ballast"}},
	}
	for set := range 1 << len(all) {
		x, want := ask(), map[string]api.Errno{}
		for i, a := range all {
			if set>>i&1 == 0 {
				continue
			}
			a.make(&x)
			for _, name := range a.told {
				if want[name] == api.OK {
					want[name] = a.e
				}
			}
		}
		for _, r := range ofGear(x) {
			if r.e != want[r.name] || r.e != api.OK && !zero(r.numbers) {
				t.Error(set, r, want[r.name])
			}
		}
	}
}

// P4.7, R1: errors of gear, then those of the later one, then those of the norm, then what has no truth.
func TestErrorsOfTwoWeighings(t *testing.T) {
	right, wrong, none := gear(), gear(func(g *api.Gear) { g.Jitter = -1 }), gear(func(g *api.Gear) { g.Loads[0].Shown = -1000 })
	other := gear(func(g *api.Gear) { g.Added = 0 })
	badNorm := norm(func(n *api.Norm) { n.Added = -1 })
	badBay := hall()
	badBay.Scales[0].Off.Lo = 21
	for i, x := range []struct {
		b        api.Bay
		g, later api.Gear
		n        api.Norm
		e        api.Errno
	}{
		{badBay, wrong, wrong, badNorm, api.ErrScale}, {badBay, right, right, norm(), api.ErrScale}, {hall(), wrong, none, badNorm, api.ErrGear}, {hall(), none, wrong, badNorm, api.ErrGear}, {hall(), none, wrong, norm(), api.ErrGear}, {hall(), none, right, badNorm, api.ErrNorm}, {hall(), right, none, badNorm, api.ErrNorm}, {hall(), none, right, norm(), api.ErrNone}, {hall(), right, none, norm(), api.ErrNone}, {hall(), right, other, badNorm, api.ErrNorm}, {hall(), right, other, norm(), api.ErrNone}, {hall(), right, right, norm(), api.OK},
	} {
		if k, e := scale.Again(x.b, x.g, x.later, x.n); e != x.e || e != api.OK && k != 0 {
			t.Error(i, k, e)
		}
	}
}

// P4.2, R1, R5: weights that are none; that a scale has no truth is told after that.
func TestWeightsThatAreNone(t *testing.T) {
	torn := three()
	torn.Trials = append(torn.Trials, api.Trial{Weight: 100000, Shown: 100100})
	wrong := three()
	wrong.Id = -1
	for _, n := range append([]int{-1, 0, 1, api.MaxWeight, api.MaxWeight + 1}, far...) {
		allowed := n >= 0 && n <= api.MaxWeight
		for _, x := range []struct {
			s api.Scale
			e api.Errno
		}{{three(), api.OK}, {torn, api.ErrNone}, {wrong, api.ErrScale}} {
			want := x.e
			if !allowed && want != api.ErrScale {
				want = api.ErrArg
			}
			if r, e := scale.Reads(x.s, n); e != want || e != api.OK && r != span(0, 0) {
				t.Error(n, x, r, e)
			}
		}
	}
}

// P4.4, R5: totals that are none, however far they are.
func TestTotalsThatAreNone(t *testing.T) {
	for _, n := range append([]int{-1, 0, 306781, 306900, 306990, 307109, 307201, 307320}, far...) {
		if w, e := scale.Truth(hall(), gear(), n); len(w.Tunes) != 0 || len(w.Weights) != 0 || e != api.ErrNone {
			t.Error(n, w, e)
		}
	}
}

// P4.5: loads make no difference for temperatures, nor for the hardness, whether they are valid or not; all else of gear does.
func TestLoadsDoNotMatterForInspections(t *testing.T) {
	for i, x := range []struct {
		change func(g *api.Gear)
		e      api.Errno
	}{
		{func(g *api.Gear) { g.Loads = nil }, api.OK}, {func(g *api.Gear) { g.Loads = make([]api.Load, 7) }, api.OK}, {func(g *api.Gear) { g.Loads = []api.Load{{Scale: -1, Shown: math.MinInt}} }, api.OK},
		{func(g *api.Gear) { g.Added = -1 }, api.ErrGear}, {func(g *api.Gear) { g.Base = 1001 }, api.ErrGear}, {func(g *api.Gear) { g.Jitter = -1 }, api.ErrGear}, {func(g *api.Gear) { g.Runners[0] = -1001 }, api.ErrGear}, {func(g *api.Gear) { g.Strokes[0] = -1 }, api.ErrGear}, {func(g *api.Gear) { g.Spread = 2001 }, api.ErrGear}, {func(g *api.Gear) { g.Runners = make([]int, 9) }, api.ErrGear}, {func(g *api.Gear) { g.Strokes = make([]int, 9) }, api.ErrGear},
		// Not valid comes before that there is no hardness.
		{func(g *api.Gear) { g.Strokes = ints(1, 2000); g.Added = -1 }, api.ErrGear},
	} {
		g := gear(x.change)
		warm, e := scale.Warm(g)
		hard, f := scale.Hard(g)
		if e != x.e || f != x.e {
			t.Error(i, e, f)
		}
		if x.e == api.OK && (!slices.Equal(warm, spans(span(31, 39), span(34, 42))) || hard != span(409, 415)) || x.e != api.OK && (len(warm) != 0 || hard != span(0, 0)) {
			t.Error(i, warm, hard)
		}
	}
}
