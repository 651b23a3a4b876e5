package scale_test

import (
	"math"
	"slices"
	"testing"

	"kreisel/api"
	"kreisel/scale"
)

// A sled is one with its crew as it truly is: what its parts weigh, what is added, how warm its runners are, and how hard.
type sled struct {
	parts   []int
	added   int
	base    int
	runners []int
	hard    int
}

func (s sled) total() int {
	sum := s.added
	for _, p := range s.parts {
		sum += p
	}
	return sum
}

// sled throws a sled, often as heavy as is allowed.
func (d dice) sled() sled {
	s := sled{added: d.from(0, 3000), base: d.from(-300, 300), hard: d.from(0, api.MaxHard)}
	for range d.from(0, api.MaxLoads) {
		s.parts = append(s.parts, d.from(0, []int{300, 100000, api.MaxWeight}[d.from(0, 2)]))
	}
	for range d.from(0, api.MaxRunners) {
		s.runners = append(s.runners, s.base+d.from(-20, 60))
	}
	return s
}

// hall throws scales as they truly are.
func (d dice) hall() []trueScale {
	var list []trueScale
	for i := range d.from(1, api.MaxScales) {
		s := d.trueScale(5*i+d.from(0, 4), d.from(0, 1)*(api.MaxStep-1)+1, api.MaxGain, api.MaxOff, 0)
		for range d.from(0, 3) {
			s.Trials = append(s.Trials, s.trial(d.from(0, api.MaxWeight)))
		}
		list = append(list, s)
	}
	return list
}

func bayOf(scales []trueScale) api.Bay {
	var b api.Bay
	for _, s := range scales {
		b.Scales = append(b.Scales, s.Scale)
	}
	return b
}

// weigh returns what is told of a sled that is inspected on some scales.
func (d dice) weigh(scales []trueScale, s sled) api.Gear {
	g := api.Gear{Added: s.added, Base: s.base, Jitter: d.from(0, 5), Spread: d.from(0, 9), Stamp: true}
	for _, p := range s.parts {
		on := scales[d.IntN(len(scales))]
		g.Loads = append(g.Loads, api.Load{Scale: on.Id, Shown: shown(on.Scale, on.gain, on.off, p)})
	}
	wrong := d.from(-20, 20)
	g.Base += wrong + d.from(-g.Jitter, g.Jitter)
	for _, r := range s.runners {
		g.Runners = append(g.Runners, r+wrong+d.from(-g.Jitter, g.Jitter))
	}
	for range d.from(0, api.MaxStrokes) {
		g.Strokes = append(g.Strokes, min(api.MaxHard, max(0, s.hard+d.from(-g.Spread, g.Spread))))
	}
	return g
}

// passes returns whether each condition of a norm is truly met.
func (s sled) passes(n api.Norm) []bool {
	warm := !slices.ContainsFunc(s.runners, func(r int) bool { return r-s.base > n.Warm })
	return []bool{n.Total.Lo <= s.total() && s.total() <= n.Total.Hi, s.added <= n.Added, warm, n.Hard.Lo <= s.hard && s.hard <= n.Hard.Hi, true}
}

// normNear throws a norm whose ends a sled is near to.
func (d dice) normNear(s sled) api.Norm {
	near := func(x, wide, most int) api.Span {
		lo := min(most, max(0, x+d.from(-wide, wide/4)))
		return span(lo, min(most, max(lo, x+d.from(-wide/4, wide))))
	}
	wide := []int{1, 300, 5000, 50000}[d.from(0, 3)]
	return api.Norm{Total: near(s.total(), wide, 10*api.MaxWeight), Added: max(0, s.added+d.from(-300, 900)), Warm: d.from(30, 80), Hard: near(s.hard, 12, api.MaxHard), Stamp: d.from(0, 1) == 0}
}

// P4.9: whatever is true, the true total is told, what is told to pass passes, what passes is not told to fail, and what passed once does not fail on other scales.
func TestWhatPassedStillPasses(t *testing.T) {
	d := newDice(17)
	seen := map[uint8]int{}
	for range 500 {
		scales, s := d.hall(), d.sled()
		other := d.hall()
		b, g, later := bayOf(scales), d.weigh(scales, s), d.weigh(other, s)
		if l := mustTotals(t, b, g); !has(l, s.total()) {
			t.Error("Totals:", b, g, s, l)
		}
		if _, e := scale.Truth(b, g, s.total()); e != api.OK {
			t.Error("Truth:", b, g, s, e)
		}
		n := d.normNear(s)
		first, second := mustJudge(t, b, g, n), mustJudge(t, bayOf(other), later, n)
		for i, ok := range s.passes(n) {
			for _, known := range []uint8{first[i], second[i]} {
				if ok && known == api.KnownNo || !ok && known == api.KnownYes {
					t.Error("Judge:", b, g, s, n, i, ok, known)
				}
			}
			if first[i]+second[i] == api.KnownYes && first[i] != second[i] {
				t.Error("passed, and failed:", b, g, later, n, i)
			}
			seen[first[i]]++
		}
		again := d.weigh(scales, s)
		k, e := scale.Again(b, g, again, n)
		if ok := s.passes(n)[api.NormTotal]; e != api.OK || ok && k == api.KnownNo || !ok && k == api.KnownYes {
			t.Error("Again:", b, g, again, s, n, k, e)
		}
		// Who weighs again never knows less.
		if one := first[api.NormTotal]; one != api.KnownOpen && k != one {
			t.Error("Again, of what was known:", b, g, again, n, k, one)
		}
	}
	if seen[0] < 100 || seen[1] < 300 || seen[2] < 300 {
		t.Error("too few of a sort:", seen)
	}
}

// P4.9: the true number is shown, and the truth of a scale is told.
func TestWhatIsShownIsTold(t *testing.T) {
	d := newDice(19)
	for range 2000 {
		s := d.hall()[0]
		w := d.from(0, api.MaxWeight)
		if r, e := scale.Reads(s.Scale, w); e != api.OK || !has(spans(r), shown(s.Scale, s.gain, s.off, w)) {
			t.Error("Reads:", s, w, r, e)
		}
		l, e := scale.Tunes(s.Scale)
		if e != api.OK || !slices.ContainsFunc(l, func(x api.Tune) bool { return x.Gain == s.gain && has(spans(x.Off), s.off) }) {
			t.Error("Tunes:", s, l, e)
		}
	}
}

// isTruth tells whether something is a truth of gear with a total, word for word.
func isTruth(b api.Bay, g api.Gear, w api.Weighed, total int) bool {
	tunes, at := map[int][2]int{}, 0
	scales := map[int]api.Scale{}
	for _, s := range b.Scales {
		scales[s.Id] = s
		if !slices.ContainsFunc(g.Loads, func(l api.Load) bool { return l.Scale == s.Id }) {
			continue
		}
		if at >= len(w.Tunes) {
			return false
		}
		x := w.Tunes[at]
		at++
		tunes[s.Id] = x
		if x[0] < s.Gain.Lo || x[0] > s.Gain.Hi || x[1] < s.Off.Lo || x[1] > s.Off.Hi {
			return false
		}
		for _, r := range s.Trials {
			if !shows(s, x[0], x[1], r.Weight, r.Shown) {
				return false
			}
		}
	}
	if at != len(w.Tunes) || len(w.Weights) != len(g.Loads) {
		return false
	}
	sum := g.Added
	for i, l := range g.Loads {
		x := tunes[l.Scale]
		if w.Weights[i] < 0 || w.Weights[i] > api.MaxWeight || !shows(scales[l.Scale], x[0], x[1], w.Weights[i], l.Shown) {
			return false
		}
		sum += w.Weights[i]
	}
	return sum == total
}

// P4.3, P4.4, P4.10: for totals that are told there is a truth, for the next ones there is none; spans are in order, and as few as can be.
func TestEachTotalHasATruth(t *testing.T) {
	d := newDice(23)
	for range 150 {
		scales := d.hall()
		b, g := bayOf(scales), d.weigh(scales, d.sled())
		l := mustTotals(t, b, g)
		for i, s := range l {
			if s.Lo > s.Hi || i > 0 && l[i-1].Hi+1 >= s.Lo {
				t.Error("Totals:", b, g, l)
			}
			if i > 3 && i < len(l)-3 && i%50 > 0 {
				continue
			}
			for _, total := range ints(s.Lo, d.from(s.Lo, s.Hi), s.Hi) {
				if w, e := scale.Truth(b, g, total); e != api.OK || !isTruth(b, g, w, total) {
					t.Error("Truth:", b, g, total, w, e)
				}
			}
			for _, total := range ints(s.Lo-1, s.Hi+1) {
				if w, e := scale.Truth(b, g, total); e != api.ErrNone || w.Tunes != nil || w.Weights != nil {
					t.Error("Truth of no total:", b, g, total, w, e)
				}
			}
		}
	}
}

// less tells whether of something less is known than of something else, or as much.
func less(known, before uint8) bool { return known == api.KnownOpen || known == before }

// P4.11: with a trial more no total is added, and nothing that was known gets open.
func TestTrialsMore(t *testing.T) {
	d := newDice(29)
	narrower := 0
	for range 300 {
		scales, s := d.hall(), d.sled()
		b, g, n := bayOf(scales), d.weigh(scales, s), d.normNear(s)
		before, parts := mustTotals(t, b, g), mustJudge(t, b, g, n)
		i := d.IntN(len(scales))
		x := &b.Scales[i]
		x.Trials = append(slices.Clip(x.Trials), scales[i].trial(d.from(0, api.MaxWeight)))
		after := mustTotals(t, b, g)
		if !insideOf(after, before) {
			t.Error("Totals:", b, g, before, after)
		}
		if !slices.Equal(before, after) {
			narrower++
		}
		for j, k := range mustJudge(t, b, g, n) {
			if !less(parts[j], k) {
				t.Error("Judge:", b, g, n, parts, j, k)
			}
		}
		// Nor with a trial that agrees with nothing else.
		x.Trials = append(x.Trials, api.Trial{Weight: d.from(0, 9), Shown: -d.from(0, 100) * x.Step})
		if l, e := scale.Totals(b, g); !insideOf(l, after) || (len(l) > 0) != (e == api.OK) {
			t.Error("Totals:", b, g, l, after, e)
		}
	}
	if narrower < 50 {
		t.Error("too few trials that tell anything:", narrower)
	}
}

// P4.11: with a wider gain or offset, or a greater spread or jitter, nothing is known that was open, and no total is lost.
func TestWiderErrors(t *testing.T) {
	d := newDice(31)
	lost := 0
	for range 300 {
		scales, s := d.hall(), d.sled()
		b, g, n := bayOf(scales), d.weigh(scales, s), d.normNear(s)
		before, parts := mustTotals(t, b, g), mustJudge(t, b, g, n)
		i := d.IntN(len(scales))
		widen := func(x *api.Span, most int) { *x = span(d.from(-most, x.Lo), d.from(x.Hi, most)) }
		for j, change := range []func(x *api.Scale, g *api.Gear){
			func(x *api.Scale, g *api.Gear) { widen(&x.Gain, api.MaxGain) },
			func(x *api.Scale, g *api.Gear) { widen(&x.Off, api.MaxOff) },
			func(x *api.Scale, g *api.Gear) { g.Jitter += d.from(0, 5) },
			func(x *api.Scale, g *api.Gear) { g.Spread += d.from(0, 5) },
		} {
			wide, gear := api.Bay{Scales: slices.Clone(b.Scales)}, g
			change(&wide.Scales[i], &gear)
			if after := mustTotals(t, wide, gear); !insideOf(before, after) {
				t.Error("Totals:", j, b, wide, g, before, after)
			}
			for part, k := range mustJudge(t, wide, gear, n) {
				if !less(k, parts[part]) {
					t.Error("Judge:", j, b, wide, g, gear, n, part, parts, k)
				}
				if k != parts[part] {
					lost++
				}
			}
		}
	}
	if lost < 20 {
		t.Error("too few errors that matter:", lost)
	}
}

// P4.12: loads in another order, and on scales under other numbers, have the same totals.
func TestOrderAndNumbersDoNotMatter(t *testing.T) {
	d := newDice(37)
	for range 200 {
		scales := d.hall()
		b, g := bayOf(scales), d.weigh(scales, d.sled())
		before := mustTotals(t, b, g)
		mixed := api.Gear{Loads: slices.Clone(g.Loads), Added: g.Added}
		d.Shuffle(len(mixed.Loads), func(i, j int) { mixed.Loads[i], mixed.Loads[j] = mixed.Loads[j], mixed.Loads[i] })
		if l := mustTotals(t, b, mixed); !slices.Equal(l, before) {
			t.Error("another order:", b, g, mixed, before, l)
		}
		// Other numbers put the scales in another order, too.
		other, named := api.Bay{}, map[int]int{}
		for i, at := range d.Perm(len(scales)) {
			s := scales[at].Scale
			named[s.Id], s.Id = 100*i+7, 100*i+7
			other.Scales = append(other.Scales, s)
		}
		for i := range mixed.Loads {
			mixed.Loads[i].Scale = named[mixed.Loads[i].Scale]
		}
		if l := mustTotals(t, other, mixed); !slices.Equal(l, before) {
			t.Error("other numbers:", b, other, mixed, before, l)
		}
	}
}

// P4.12: loads on one scale have no totals that they would not have on two that are alike.
func TestTwoScalesThatAreAlike(t *testing.T) {
	d := newDice(41)
	more := 0
	for range 300 {
		s := d.trueScale(1, 3, api.MaxGain, 5, 1)
		twin := s
		twin.Id = 2
		b := bay(s.Scale, twin.Scale)
		one := d.weigh([]trueScale{s}, sled{parts: ints(d.from(0, 5000), d.from(0, 5000), d.from(0, 5000))})
		two := api.Gear{Loads: slices.Clone(one.Loads)}
		for i := range two.Loads {
			two.Loads[i].Scale = d.from(1, 2)
		}
		before, after := mustTotals(t, b, one), mustTotals(t, b, two)
		if !insideOf(before, after) {
			t.Error(b, one, two, before, after)
		}
		if !slices.Equal(before, after) {
			more++
		}
	}
	if more < 50 {
		t.Error("too few loads for which it matters:", more)
	}
}

// P4.13: with the pieces that Ballast tells, and none that was added, the sled passes by its weight; with lighter ones it does not, nor with any if it tells none.
func TestWithBallastASledPasses(t *testing.T) {
	d := newDice(43)
	found := 0
	for range 150 {
		scales, s := d.hall(), d.sled()
		b, g := bayOf(scales), d.weigh(scales, s)
		g.Strokes, g.Runners = nil, nil
		bare := g
		bare.Added = 0
		totals := mustTotals(t, b, bare)
		least, greatest := totals[0].Lo, totals[len(totals)-1].Hi
		n := totalOf(least+d.from(0, 4000), 0)
		n.Total.Hi = greatest + 4000 + d.from(0, 4000)
		n.Total = span(min(n.Total.Lo, n.Total.Hi), n.Total.Hi)
		n.Added = d.from(0, 8000)
		var pieces []int
		for range d.from(0, 6) {
			pieces = append(pieces, d.from(0, 5000))
		}
		l, e := scale.Ballast(b, g, n, pieces)
		if e != api.OK && e != api.ErrBad {
			t.Fatal(b, g, n, pieces, l, e)
		}
		told := 0
		for _, i := range l {
			told += pieces[i]
		}
		if e == api.OK {
			found++
		}
		lists(len(pieces), nil, func(list []int) {
			bare.Added = 0
			for _, i := range list {
				bare.Added += pieces[i]
			}
			p := mustJudge(t, b, bare, n)
			passes := p[api.NormTotal] == api.KnownYes && p[api.NormAdded] == api.KnownYes
			if passes && (e == api.ErrBad || bare.Added < told) || !passes && e == api.OK && slices.Equal(list, l) {
				t.Error(b, g, n, pieces, l, e, list, passes)
			}
		})
	}
	if found < 50 {
		t.Error("too few sleds that pass:", found)
	}
}

// R5: no number overflows, and no call takes long, at the greatest numbers that are allowed, and with as many totals apart as there can be.
func TestGreatestNumbers(t *testing.T) {
	var b api.Bay
	for i := range api.MaxScales {
		b.Scales = append(b.Scales, api.Scale{Id: i, Step: 1, Gain: span(-10, 10), Off: span(-100, 100)})
	}
	for parts := 1; parts <= api.MaxScales; parts++ {
		g := api.Gear{Added: api.MaxWeight}
		for i := range api.MaxLoads {
			g.Loads = append(g.Loads, api.Load{Scale: i % parts, Shown: 990000 - 7*i})
		}
		l := mustTotals(t, b, g)
		for _, total := range ints(l[0].Lo, l[len(l)/2].Lo, l[len(l)-1].Hi) {
			if w, e := scale.Truth(b, g, total); e != api.OK || !isTruth(b, g, w, total) {
				t.Error(parts, total, w, e)
			}
		}
		if k, e := scale.Again(b, g, g, totalOf(0, 10*api.MaxWeight)); k != api.KnownYes || e != api.OK {
			t.Error(parts, k, e)
		}
	}
	all := loads(0, slices.Repeat(ints(1010100), 6)...)
	all.Added = api.MaxWeight
	if l := mustTotals(t, b, all); !slices.Equal(l, spans(span(7000000, 7000000))) {
		t.Error(l)
	}
	// A gram is shown as nothing, if the gain is below 0.
	none := loads(0, slices.Repeat(ints(-100), 6)...)
	if l := mustTotals(t, b, none); !slices.Equal(l, spans(span(0, 6))) {
		t.Error(l)
	}
	for _, n := range ints(1010101, 2*api.MaxWeight, -101, -2*api.MaxWeight) {
		if l, e := scale.Totals(b, loads(0, n)); len(l) != 0 || e != api.ErrNone {
			t.Error(n, l, e)
		}
	}
	if r, e := scale.Reads(b.Scales[0], api.MaxWeight); r != span(989900, 1010100) || e != api.OK {
		t.Error(r, e)
	}
	if r, e := scale.Reads(api.Scale{Step: 500, Gain: span(-10, 10), Off: span(-100, 100)}, 0); r != span(-500, 0) || e != api.OK {
		t.Error(r, e)
	}
	if l, e := scale.Warm(api.Gear{Base: 1000, Jitter: 1000, Runners: ints(-1000)}); !slices.Equal(l, spans(span(-4000, 0))) || e != api.OK {
		t.Error(l, e)
	}
	if l, e := scale.Ballast(bay(), api.Gear{}, totalOf(8*api.MaxWeight, 10*api.MaxWeight), slices.Repeat(ints(api.MaxWeight), 8)); len(l) != 0 || e != api.ErrBad {
		t.Error(l, e)
	}
}

// R3: no argument is written to, nor the memory behind its end.
func TestNoArgumentIsWrittenTo(t *testing.T) {
	x := ask()
	scales := append(x.b.Scales, three(), five())
	trials := append(x.b.Scales[0].Trials, api.Trial{Weight: 4}, api.Trial{Weight: 44})
	loads := append(x.g.Loads, api.Load{Scale: 4}, api.Load{Scale: 44})
	runners, strokes := append(x.g.Runners, 4, 44), append(x.g.Strokes, 4, 44)
	pieces := append(x.list, 4, 44)
	x.b.Scales, x.g.Loads, x.g.Runners, x.g.Strokes, x.list = scales[:2], loads[:2], runners[:2], strokes[:2], pieces[:3]
	x.b.Scales[0].Trials = trials[:1]
	ofGear(x)
	ofOne(x.b.Scales[0], 5, x.g)
	for i, s := range []api.Scale{three(), five(), three(), five()} {
		if got := scales[i]; got.Id != s.Id || got.Step != s.Step || got.Gain != s.Gain || got.Off != s.Off || !slices.Equal(got.Trials, s.Trials) {
			t.Error("scales:", scales)
		}
	}
	if !slices.Equal(trials, []api.Trial{{Weight: 100000, Shown: 100000}, {Weight: 4}, {Weight: 44}}) {
		t.Error("trials:", trials)
	}
	if !slices.Equal(loads, []api.Load{{Scale: 3, Shown: 95000}, {Scale: 5, Shown: 210000}, {Scale: 4}, {Scale: 44}}) {
		t.Error("loads:", loads)
	}
	if !slices.Equal(runners, ints(85, 88, 4, 44)) || !slices.Equal(strokes, ints(410, 414, 4, 44)) || !slices.Equal(pieces, ints(5000, 2000, 1000, 4, 44)) {
		t.Error(runners, strokes, pieces)
	}
}

// R3: a result shares no memory with another one, and nothing is remembered from one call to another.
func TestCallsAreTheSameAgain(t *testing.T) {
	d := newDice(47)
	var all []asked
	var first [][]result
	for range 60 {
		b, g := d.small()
		g = d.inspect(g)
		l, _ := scale.Totals(b, g)
		x := asked{b: b, g: g, n: d.normAbout(l), list: ints(4, 3, 7)}
		if len(l) > 0 {
			x.total = l[len(l)-1].Hi
		}
		all, first = append(all, x), append(first, append(ofGear(x), ofOne(b.Scales[0], 70, g)...))
	}
	for i := len(all) - 1; i >= 0; i-- {
		x := all[i]
		spoil(x)
		if again := append(ofGear(x), ofOne(x.b.Scales[0], 70, x.g)...); !slices.EqualFunc(again, first[i], same) {
			t.Error(x, again, first[i])
		}
	}
}

// spoil writes to all memory of results.
func spoil(x asked) {
	totals, _ := scale.Totals(x.b, x.g)
	clear(totals[:cap(totals)])
	truth, _ := scale.Truth(x.b, x.g, x.total)
	clear(truth.Tunes[:cap(truth.Tunes)])
	clear(truth.Weights[:cap(truth.Weights)])
	parts, _, _ := scale.Judge(x.b, x.g, x.n)
	clear(parts[:cap(parts)])
	pieces, _ := scale.Ballast(x.b, x.g, x.n, x.list)
	clear(pieces[:cap(pieces)])
	tunes, _ := scale.Tunes(x.b.Scales[0])
	clear(tunes[:cap(tunes)])
	warm, _ := scale.Warm(x.g)
	clear(warm[:cap(warm)])
}

// R5, R7: no call panics, whatever its arguments are.
func TestNoCallPanics(t *testing.T) {
	d := newDice(53)
	ends := []int{math.MinInt, -2000000, -1000, -100, -10, -1, 0, 1, 2, 3, 5, 10, 100, 500, 1000, 2000, 1000000, 2000000, 10000000, math.MaxInt}
	pick := func() int { return ends[d.IntN(len(ends))] }
	anySpan := func() api.Span { return span(pick(), pick()) }
	for range 5000 {
		x := plain()
		x.b, x.g = d.small()
		x.g = d.inspect(x.g)
		s := x.first()
		switch d.from(0, 7) {
		case 0:
			*s = api.Scale{Id: pick(), Step: pick(), Gain: anySpan(), Off: anySpan(), Trials: []api.Trial{{Weight: pick(), Shown: pick()}}}
		case 1:
			s.Step = pick()
		case 2:
			s.Gain, s.Off = anySpan(), anySpan()
		case 3:
			x.g.Loads = slices.Repeat([]api.Load{{Scale: s.Id, Shown: pick()}}, d.from(0, 8))
		case 4:
			x.g.Base, x.g.Jitter, x.g.Spread, x.g.Added = pick(), pick(), pick(), pick()
		case 5:
			x.g.Runners, x.g.Strokes = slices.Repeat(ints(pick()), d.from(0, 10)), slices.Repeat(ints(pick()), d.from(0, 10))
		case 6:
			x.n = api.Norm{Total: anySpan(), Added: pick(), Warm: pick(), Hard: anySpan()}
		case 7:
			x.b.Scales, x.list = slices.Repeat(x.b.Scales, d.from(0, 3)), slices.Repeat(ints(pick()), d.from(0, 70))
		}
		x.total = pick()
		ofGear(x)
		for _, s := range x.b.Scales {
			ofOne(s, pick(), x.g)
		}
	}
}
