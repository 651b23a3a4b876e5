package scale_test

import (
	"maps"
	"math/rand/v2"
	"slices"
	"testing"

	"kreisel/api"
	"kreisel/scale"
)

func span(lo, hi int) api.Span { return api.Span{Lo: lo, Hi: hi} }

func spans(l ...api.Span) []api.Span { return l }

func ints(l ...int) []int { return l }

// three and five return the scales of the chapter's examples.
func three() api.Scale {
	return api.Scale{Id: 3, Step: 10, Gain: span(-10, 10), Off: span(-20, 20), Trials: []api.Trial{{Weight: 100000, Shown: 100000}}}
}
func five() api.Scale { return api.Scale{Id: 5, Step: 100, Gain: span(-1, 1)} }

func bay(scales ...api.Scale) api.Bay { return api.Bay{Scales: scales} }

// hall returns the bay of the chapter's examples.
func hall() api.Bay { return bay(three(), five()) }

// gear returns the gear of the chapter's examples, changed.
func gear(change ...func(g *api.Gear)) api.Gear {
	g := api.Gear{
		Loads: []api.Load{{Scale: 3, Shown: 95000}, {Scale: 5, Shown: 210000}}, Added: 2000,
		Base: 50, Jitter: 2, Runners: ints(85, 88), Strokes: ints(410, 414), Spread: 5, Stamp: true,
	}
	for _, x := range change {
		x(&g)
	}
	return g
}

// norm returns the norm of the chapter's examples, changed.
func norm(change ...func(n *api.Norm)) api.Norm {
	n := api.Norm{Total: span(300000, 307150), Added: 6000, Warm: 40, Hard: span(405, 415), Stamp: true}
	for _, x := range change {
		x(&n)
	}
	return n
}

// loads returns gear of nothing but what a scale with an Id showed.
func loads(id int, shown ...int) api.Gear {
	var g api.Gear
	for _, s := range shown {
		g.Loads = append(g.Loads, api.Load{Scale: id, Shown: s})
	}
	return g
}

// totalOf returns a norm that asks nothing but a total.
func totalOf(lo, hi int) api.Norm {
	return api.Norm{Total: span(lo, hi), Added: api.MaxWeight, Hard: span(0, api.MaxHard), Warm: api.MaxTemper}
}

// dice throw numbers that are the same in each run of the tests.
type dice struct{ *rand.Rand }

func newDice(seed uint64) dice { return dice{rand.New(rand.NewPCG(seed, 4))} }

func (d dice) from(lo, hi int) int { return lo + d.IntN(hi-lo+1) }

// span throws a span with ends from lo to hi that is at most wide.
func (d dice) span(lo, hi, wide int) api.Span {
	l := d.from(lo, hi)
	return span(l, min(hi, l+d.from(0, wide)))
}

// shows tells whether a scale with a gain and an offset shows a number for a weight, word for word.
func shows(s api.Scale, gain, off, weight, shown int) bool {
	sum := weight*(1000+gain) + 1000*off
	return shown%s.Step == 0 && 1000*shown <= sum && 1000*(shown+s.Step) > sum
}

// shown returns what a scale with a gain and an offset shows for a weight, by trying numbers from the least one on.
func shown(s api.Scale, gain, off, weight int) int {
	n := (weight*98/100 - 1000) / s.Step * s.Step
	for !shows(s, gain, off, weight, n) {
		n += s.Step
	}
	return n
}

// tunesOf returns all gains and offsets with which a scale shows what it did in its trials.
func tunesOf(s api.Scale) [][2]int {
	var list [][2]int
	for gain := s.Gain.Lo; gain <= s.Gain.Hi; gain++ {
		for off := s.Off.Lo; off <= s.Off.Hi; off++ {
			if !slices.ContainsFunc(s.Trials, func(t api.Trial) bool { return !shows(s, gain, off, t.Weight, t.Shown) }) {
				list = append(list, [2]int{gain, off})
			}
		}
	}
	return list
}

// weightsOf returns all weights for which a scale with a gain and an offset shows a number.
func weightsOf(s api.Scale, tune [2]int, number int) []int {
	var list []int
	for w := max(0, number*98/100-1000); w <= min(api.MaxWeight, number*102/100+1000); w++ {
		if shows(s, tune[0], tune[1], w, number) {
			list = append(list, w)
		}
	}
	return list
}

// truths returns the first truth of gear with each total, by going through all of them in their order.
func truths(b api.Bay, g api.Gear) map[int]api.Weighed {
	all := map[int]api.Weighed{}
	tuned := map[int][2]int{}
	// A load's weights do not depend on how other scales are tuned.
	known := map[[4]int][]int{}
	of := func(s api.Scale, number int) []int {
		t := tuned[s.Id]
		key := [4]int{s.Id, t[0], t[1], number}
		if _, ok := known[key]; !ok {
			known[key] = weightsOf(s, t, number)
		}
		return known[key]
	}
	var used []api.Scale
	scales := map[int]api.Scale{}
	for _, s := range b.Scales {
		scales[s.Id] = s
		if slices.ContainsFunc(g.Loads, func(l api.Load) bool { return l.Scale == s.Id }) {
			used = append(used, s)
		}
	}
	var tunes [][2]int
	var weigh func(weights []int, total int)
	weigh = func(weights []int, total int) {
		if len(weights) == len(g.Loads) {
			if _, ok := all[total]; !ok {
				all[total] = api.Weighed{Tunes: slices.Clone(tunes), Weights: slices.Clone(weights)}
			}
			return
		}
		l := g.Loads[len(weights)]
		for _, w := range of(scales[l.Scale], l.Shown) {
			weigh(append(weights, w), total+w)
		}
	}
	var tune func(i int)
	tune = func(i int) {
		if i == len(used) {
			weigh(nil, g.Added)
			return
		}
		for _, t := range tunesOf(used[i]) {
			tuned[used[i].Id], tunes = t, append(tunes[:i], t)
			tune(i + 1)
		}
	}
	tune(0)
	return all
}

// spansOf returns the spans of all numbers that are keys of a map.
func spansOf[V any](numbers map[int]V) []api.Span {
	var list []api.Span
	for _, n := range slices.Sorted(maps.Keys(numbers)) {
		if last := len(list) - 1; last >= 0 && list[last].Hi == n-1 {
			list[last].Hi = n
		} else {
			list = append(list, span(n, n))
		}
	}
	return list
}

// has tells whether a number is in one of some spans.
func has(list []api.Span, n int) bool {
	return slices.ContainsFunc(list, func(s api.Span) bool { return s.Lo <= n && n <= s.Hi })
}

// insideOf tells whether each of some spans is in one of some others.
func insideOf(list, others []api.Span) bool {
	return !slices.ContainsFunc(list, func(a api.Span) bool {
		return !slices.ContainsFunc(others, func(b api.Span) bool { return b.Lo <= a.Lo && a.Hi <= b.Hi })
	})
}

// knownOf returns what is known of something that is so in some of some truths.
func knownOf(so, all int) uint8 {
	switch so {
	case all:
		return api.KnownYes
	case 0:
		return api.KnownNo
	}
	return api.KnownOpen
}

// A trueScale is a scale with the gain and the offset that it truly has.
type trueScale struct {
	api.Scale
	gain, off int
}

// trueScale throws a scale, what is told of it, and some trials.
func (d dice) trueScale(id, steps, gains, offs, trials int) trueScale {
	s := trueScale{Scale: api.Scale{Id: id, Step: d.from(1, steps), Gain: d.span(-gains, gains, gains), Off: d.span(-offs, offs, offs)}}
	s.gain, s.off = d.from(s.Gain.Lo, s.Gain.Hi), d.from(s.Off.Lo, s.Off.Hi)
	for range d.from(0, trials) {
		s.Trials = append(s.Trials, s.trial(d.from(0, 5000*d.from(0, 1)+100)))
	}
	return s
}

// trial returns a trial of a weight.
func (s trueScale) trial(weight int) api.Trial {
	return api.Trial{Weight: weight, Shown: shown(s.Scale, s.gain, s.off, weight)}
}

// small throws a bay with gear that have few truths, or none.
func (d dice) small() (api.Bay, api.Gear) {
	var b api.Bay
	var g api.Gear
	// With great gains, great weights and small steps there are totals apart.
	steps, gains, offs := 4, d.from(0, 3), 2
	if d.from(0, 2) == 0 {
		steps, gains, offs = 2, api.MaxGain, 1
	}
	for range d.from(1, 3) {
		id := 2*len(b.Scales) + d.from(0, 1)
		s := d.trueScale(id, steps, gains, d.from(0, offs), 2)
		if d.from(0, 9) == 0 {
			s.Trials = append(s.Trials, api.Trial{Weight: d.from(0, 50), Shown: d.from(0, 20) * s.Step})
		}
		b.Scales = append(b.Scales, s.Scale)
		// Some scales have no load.
		for range d.from(0, 2) {
			n := shown(s.Scale, s.gain, s.off, d.from(0, 3000*d.from(0, 1)+5))
			g.Loads = append(g.Loads, api.Load{Scale: id, Shown: n + s.Step*(d.from(0, 9)/9)})
		}
	}
	g.Added = d.from(0, 1) * d.from(0, 50)
	d.Shuffle(len(g.Loads), func(i, j int) { g.Loads[i], g.Loads[j] = g.Loads[j], g.Loads[i] })
	return b, g
}

// inspect throws temperatures, strokes and stamps for gear.
func (d dice) inspect(g api.Gear) api.Gear {
	g.Base, g.Jitter, g.Runners = d.from(-5, 5), d.from(0, 2), nil
	for range d.from(0, 3) {
		g.Runners = append(g.Runners, d.from(-5, 5))
	}
	g.Spread, g.Strokes = d.from(0, 4), nil
	for range d.from(0, 3) {
		g.Strokes = append(g.Strokes, d.from(0, 8)+(api.MaxHard-8)*d.from(0, 9)/9)
	}
	g.Stamp = d.from(0, 1) == 0
	return g
}

// normAbout throws a norm with which totals, temperatures and hardnesses are about as often in, and out.
func (d dice) normAbout(totals []api.Span) api.Norm {
	least, greatest := 0, 10
	if len(totals) > 0 {
		least, greatest = totals[0].Lo, totals[len(totals)-1].Hi
	}
	n := api.Norm{Total: d.span(max(0, least-5), greatest+5, greatest-least+10), Added: d.from(0, 50), Warm: d.from(-6, 6), Stamp: d.from(0, 1) == 0}
	n.Hard = d.span(0, 10, 10)
	return n
}

func mustTotals(t *testing.T, b api.Bay, g api.Gear) []api.Span {
	t.Helper()
	l, e := scale.Totals(b, g)
	if e != api.OK {
		t.Fatal("Totals:", b, g, e)
	}
	return l
}

func mustJudge(t *testing.T, b api.Bay, g api.Gear, n api.Norm) []uint8 {
	t.Helper()
	parts, whole, e := scale.Judge(b, g, n)
	if e != api.OK || len(parts) != api.Norms || whole != slices.Min(parts) {
		t.Fatal("Judge:", b, g, n, parts, whole, e)
	}
	return parts
}
