package scale_test

import (
	"slices"
	"testing"

	"kreisel/api"
	"kreisel/scale"
)

func TestExamples(t *testing.T) {
	if l, e := scale.Tunes(three()); !slices.Equal(l, []api.Tune{{Off: span(0, 9)}}) || e != api.OK {
		t.Error("Tunes:", l, e)
	}
	if l, e := scale.Tunes(five()); !slices.Equal(l, []api.Tune{{Gain: -1}, {}, {Gain: 1}}) || e != api.OK {
		t.Error("Tunes:", l, e)
	}
	if s, e := scale.Reads(three(), 95000); s != span(95000, 95000) || e != api.OK {
		t.Error("Reads:", s, e)
	}
	if s, e := scale.Reads(five(), 210000); s != span(209700, 210200) || e != api.OK {
		t.Error("Reads:", s, e)
	}
	if l := mustTotals(t, hall(), gear()); !slices.Equal(l, spans(span(306782, 306899), span(306991, 307108), span(307202, 307319))) {
		t.Error("Totals:", l)
	}
	w, e := scale.Truth(hall(), gear(), 306782)
	if !slices.Equal(w.Tunes, [][2]int{{0, 9}, {1, 0}}) || !slices.Equal(w.Weights, ints(94991, 209791)) || e != api.OK {
		t.Error("Truth:", w, e)
	}
	if l, e := scale.Warm(gear()); !slices.Equal(l, spans(span(31, 39), span(34, 42))) || e != api.OK {
		t.Error("Warm:", l, e)
	}
	if s, e := scale.Hard(gear()); s != span(409, 415) || e != api.OK {
		t.Error("Hard:", s, e)
	}
	for i, x := range []struct {
		change func(n *api.Norm)
		parts  []uint8
		whole  uint8
	}{
		{func(n *api.Norm) {}, []uint8{1, 2, 1, 2, 2}, 1},
		{func(n *api.Norm) { n.Total.Hi, n.Warm = 307319, 42 }, []uint8{2, 2, 2, 2, 2}, 2},
		{func(n *api.Norm) { n.Total.Hi = 306781 }, []uint8{0, 2, 1, 2, 2}, 0},
	} {
		if parts, whole, e := scale.Judge(hall(), gear(), norm(x.change)); !slices.Equal(parts, x.parts) || whole != x.whole || e != api.OK {
			t.Error("Judge:", i, parts, whole, e)
		}
	}
	full := norm(func(n *api.Norm) { n.Total = span(306000, 310000) })
	if l, e := scale.Ballast(hall(), gear(), full, ints(5000, 2000, 1000)); !slices.Equal(l, ints(1)) || e != api.OK {
		t.Error("Ballast:", l, e)
	}
	// Of the document's overview.
	if l, e := scale.Tunes(api.Scale{Step: 10, Off: span(-100, 100), Trials: []api.Trial{{Weight: 100000, Shown: 100000}}}); !slices.Equal(l, []api.Tune{{Off: span(0, 9)}}) || e != api.OK {
		t.Error("Tunes:", l, e)
	}
}

// P4.1, P4.2: what is told of a scale is what is so in all of its truths.
func TestAllTruthsOfScales(t *testing.T) {
	d := newDice(3)
	torn := 0
	for range 1000 {
		s := d.trueScale(d.from(0, api.MaxId), 40, api.MaxGain, 30, 3).Scale
		if d.from(0, 3) == 0 {
			s.Trials = append(s.Trials, api.Trial{Weight: d.from(0, 50), Shown: d.from(-3, 3) * s.Step})
		}
		all := tunesOf(s)
		weight := d.from(0, 3000*d.from(0, 1)+50)
		l, e := scale.Tunes(s)
		r, f := scale.Reads(s, weight)
		if len(all) == 0 {
			torn++
			if len(l) != 0 || e != api.ErrNone || r != span(0, 0) || f != api.ErrNone {
				t.Error("no truth:", s, weight, l, e, r, f)
			}
			continue
		}
		var flat [][2]int
		for _, x := range l {
			for off := x.Off.Lo; off <= x.Off.Hi; off++ {
				flat = append(flat, [2]int{x.Gain, off})
			}
		}
		if !slices.Equal(flat, all) || slices.ContainsFunc(l, func(x api.Tune) bool { return x.Off.Lo > x.Off.Hi }) || e != api.OK {
			t.Error("Tunes:", s, l, e, all)
		}
		var numbers []int
		for _, x := range all {
			numbers = append(numbers, shown(s, x[0], x[1], weight))
		}
		if want := span(slices.Min(numbers), slices.Max(numbers)); r != want || f != api.OK {
			t.Error("Reads:", s, weight, r, f, want)
		}
	}
	if torn < 50 || torn > 500 {
		t.Error("scales without a truth:", torn)
	}
}

// P4.3, P4.4, P4.10: totals are those of all truths, and of each one the first truth is told.
func TestAllTruthsOfGear(t *testing.T) {
	d := newDice(5)
	none, apart, several := 0, 0, 0
	for range 400 {
		b, g := d.small()
		all := truths(b, g)
		l, e := scale.Totals(b, g)
		if want := spansOf(all); !slices.Equal(l, want) || (e == api.OK) != (len(want) > 0) || e != api.OK && e != api.ErrNone {
			t.Error("Totals:", b, g, l, e, want)
		}
		if len(all) == 0 {
			none++
			if w, e := scale.Truth(b, g, d.from(0, 3000)); len(w.Tunes) != 0 || len(w.Weights) != 0 || e != api.ErrNone {
				t.Error("Truth of none:", b, g, w, e)
			}
			continue
		}
		for total := l[0].Lo - 2; total <= l[len(l)-1].Hi+2; total++ {
			want, ok := all[total]
			w, e := scale.Truth(b, g, total)
			if !slices.Equal(w.Tunes, want.Tunes) || !slices.Equal(w.Weights, want.Weights) || (e == api.OK) != ok || e != api.OK && e != api.ErrNone {
				t.Error("Truth:", b, g, total, w, e, want)
			}
			if len(want.Tunes) > 1 {
				several++
			}
		}
		if len(l) > 1 {
			apart++
		}
	}
	if none < 30 || apart < 10 || several < 500 {
		t.Error("too few of a sort:", none, apart, several)
	}
}

// P4.5, P4.6: what is known of temperatures and of hardness is what is so for all errors.
func TestAllErrorsOfInspections(t *testing.T) {
	d := newDice(7)
	bad := 0
	for range 1500 {
		g := d.inspect(api.Gear{Added: d.from(0, 10)})
		n := totalOf(0, 10)
		n.Warm, n.Hard, n.Added = d.from(-12, 12), d.span(0, 12, 12), d.from(0, 10)
		n.Stamp = d.from(0, 1) == 0
		warm, e := scale.Warm(g)
		if want := warmerOf(g); !slices.Equal(warm, want) || e != api.OK {
			t.Error("Warm:", g, warm, e, want)
		}
		all := hardnesses(g)
		hard, e := scale.Hard(g)
		parts, whole, f := scale.Judge(bay(), g, n)
		if len(all) == 0 {
			bad++
			if hard != span(0, 0) || e != api.ErrBad || len(parts) != 0 || whole != 0 || f != api.ErrBad {
				t.Error("no hardness:", g, hard, e, parts, whole, f)
			}
			continue
		}
		if want := span(all[0], all[len(all)-1]); hard != want || e != api.OK {
			t.Error("Hard:", g, hard, e, want)
		}
		in := 0
		for _, h := range all {
			if n.Hard.Lo <= h && h <= n.Hard.Hi {
				in++
			}
		}
		added, stamp := uint8(api.KnownNo), uint8(api.KnownYes)
		if g.Added <= n.Added {
			added = api.KnownYes
		}
		if n.Stamp && !g.Stamp {
			stamp = api.KnownNo
		}
		want := []uint8{api.KnownYes, added, knownWarm(g, n.Warm), knownOf(in, len(all)), stamp}
		if !slices.Equal(parts, want) || whole != slices.Min(want) || f != api.OK {
			t.Error("Judge:", g, n, parts, whole, f, want)
		}
	}
	if bad < 100 {
		t.Error("too little gear without a hardness:", bad)
	}
}

// errorsOf calls with all errors of the base and of the runners, of which those behind are given.
func errorsOf(g api.Gear, errors []int, call func(errors []int)) {
	if len(errors) == len(g.Runners)+1 {
		call(errors)
		return
	}
	for x := -g.Jitter; x <= g.Jitter; x++ {
		errorsOf(g, append(errors, x), call)
	}
}

// warmerOf returns by how much warmer each runner is than the base, for all errors.
func warmerOf(g api.Gear) []api.Span {
	list := make([]map[int]bool, len(g.Runners))
	for i := range list {
		list[i] = map[int]bool{}
	}
	errorsOf(g, nil, func(errors []int) {
		for i, r := range g.Runners {
			list[i][r-errors[i+1]-(g.Base-errors[0])] = true
		}
	})
	var all []api.Span
	for _, numbers := range list {
		all = append(all, spansOf(numbers)...)
	}
	return all
}

// knownWarm returns whether no runner is too warm, for all errors.
func knownWarm(g api.Gear, most int) uint8 {
	all, so := 0, 0
	errorsOf(g, nil, func(errors []int) {
		all++
		for i, r := range g.Runners {
			if r-errors[i+1]-(g.Base-errors[0]) > most {
				return
			}
		}
		so++
	})
	return knownOf(so, all)
}

// hardnesses returns all hardnesses that gear may have.
func hardnesses(g api.Gear) []int {
	var list []int
hards:
	for h := range api.MaxHard + 1 {
		for _, s := range g.Strokes {
			if s-h > g.Spread || h-s > g.Spread {
				continue hards
			}
		}
		list = append(list, h)
	}
	return list
}

// P4.6, P4.7: what is known of a total is what is so in all truths, or in those in which both weighings agree.
func TestKnownTotals(t *testing.T) {
	d := newDice(11)
	seen := map[uint8]int{}
	apart := 0
	for range 600 {
		b, g := d.small()
		later := api.Gear{Loads: slices.Clone(g.Loads), Added: g.Added + d.from(-g.Added, 3)}
		for i := range later.Loads {
			if d.from(0, 3) == 0 {
				later.Loads[i].Shown += d.from(-1, 1) * stepOf(b, later.Loads[i].Scale)
			}
		}
		first, second := truths(b, g), truths(b, later)
		n := d.normAbout(spansOf(first))
		all, in, inBoth := 0, 0, 0
		for total := range first {
			if n.Total.Lo <= total && total <= n.Total.Hi {
				in++
			}
			if _, ok := second[total]; ok {
				all++
				if n.Total.Lo <= total && total <= n.Total.Hi {
					inBoth++
				}
			}
		}
		k, e := scale.Again(b, g, later, n)
		if all == 0 {
			apart++
			if k != 0 || e != api.ErrNone {
				t.Error("Again of none:", b, g, later, n, k, e)
			}
		} else if k != knownOf(inBoth, all) || e != api.OK {
			t.Error("Again:", b, g, later, n, k, e, inBoth, all)
		}
		if len(first) > 0 {
			p := mustJudge(t, b, g, n)
			if p[api.NormTotal] != knownOf(in, len(first)) {
				t.Error("Judge:", b, g, n, p, in, len(first))
			}
			seen[p[api.NormTotal]]++
		}
	}
	if seen[0] < 30 || seen[1] < 100 || seen[2] < 30 || apart < 30 {
		t.Error("too few of a sort:", seen, apart)
	}
}

// stepOf returns the step of the scale with an Id.
func stepOf(b api.Bay, id int) int {
	return b.Scales[slices.IndexFunc(b.Scales, func(s api.Scale) bool { return s.Id == id })].Step
}

// P4.6: totals between which there are others are not those.
func TestTotalsApart(t *testing.T) {
	for _, x := range []struct {
		total api.Span
		want  uint8
	}{
		{span(306782, 307319), 2}, {span(306783, 307319), 1}, {span(306782, 307318), 1}, {span(306900, 306990), 0}, {span(306899, 306990), 1}, {span(306900, 306991), 1}, {span(306900, 306900), 0}, {span(307000, 307000), 1}, {span(306782, 306899), 1}, {span(0, 306781), 0}, {span(0, 306782), 1}, {span(307320, 10000000), 0}, {span(307319, 10000000), 1}, {span(0, 10000000), 2},
	} {
		n := norm(func(n *api.Norm) { n.Total = x.total })
		if p := mustJudge(t, hall(), gear(), n); p[api.NormTotal] != x.want {
			t.Error("Judge:", x.total, p)
		}
		if k, e := scale.Again(hall(), gear(), gear(), n); k != x.want || e != api.OK {
			t.Error("Again:", x.total, k, e)
		}
	}
}

// P4.7: weighed once more on another scale, and with other weights added, fewer totals are possible.
func TestWeighedAgain(t *testing.T) {
	fine := api.Scale{Id: 9, Step: 1, Trials: []api.Trial{{Weight: 5, Shown: 5}}}
	b := bay(three(), five(), fine)
	g := gear()
	later := loads(9, 305000)
	for _, x := range []struct {
		added int
		total api.Span
		want  uint8
		e     api.Errno
	}{
		{2000, span(300000, 307150), 2, api.OK}, {2000, span(307001, 307150), 0, api.OK}, {2050, span(307050, 307050), 2, api.OK}, {1950, span(0, 1), 0, api.ErrNone}, {1899, span(0, 306899), 2, api.OK}, {1900, span(0, 306899), 0, api.ErrNone}, {2319, span(307319, 307319), 2, api.OK}, {2320, span(307319, 307319), 0, api.ErrNone},
	} {
		later.Added = x.added
		n := norm(func(n *api.Norm) { n.Total = x.total })
		if k, e := scale.Again(b, g, later, n); k != x.want || e != x.e {
			t.Error(x, k, e)
		}
		if k, e := scale.Again(b, later, g, n); k != x.want || e != x.e {
			t.Error("the other way round:", x, k, e)
		}
	}
	// Who has no truth the first time, or the second time, has none.
	for _, x := range [][2]api.Gear{{g, loads(9, -1)}, {loads(9, -1), g}} {
		if k, e := scale.Again(b, x[0], x[1], totalOf(0, 10000000)); k != 0 || e != api.ErrNone {
			t.Error(x, k, e)
		}
	}
	// Neither temperatures, nor a hardness, nor stamps are asked.
	soft := gear(func(g *api.Gear) { g.Strokes, g.Spread, g.Stamp = ints(1, 2000), 0, false })
	if k, e := scale.Again(b, soft, soft, totalOf(0, 10000000)); k != api.KnownYes || e != api.OK {
		t.Error(k, e)
	}
}

// lists calls with all lists of numbers below another one that are in increasing order, the first one first.
func lists(number int, list []int, call func(list []int)) {
	call(list)
	from := 0
	if len(list) > 0 {
		from = list[len(list)-1] + 1
	}
	for i := from; i < number; i++ {
		lists(number, append(slices.Clip(list), i), call)
	}
}

// P4.8, P4.13: Ballast tells the lightest pieces with which the total is right in all truths, of these the fewest, of these the first ones.
func TestAllPieces(t *testing.T) {
	d := newDice(13)
	found, empty, bad := 0, 0, 0
	for range 600 {
		b, g := d.small()
		g.Added = 0
		all := truths(b, g)
		g.Added = d.from(0, 60)
		if len(all) == 0 {
			if l, e := scale.Ballast(b, g, d.normAbout(nil), ints(3)); len(l) != 0 || e != api.ErrNone {
				t.Error("Ballast of none:", b, g, l, e)
			}
			continue
		}
		n := d.normAbout(spansOf(all))
		n.Total.Lo += d.from(0, 30)
		n.Total.Hi = n.Total.Lo + d.from(0, 80)
		var pieces []int
		for range d.from(0, api.MaxPieces) {
			pieces = append(pieces, d.from(0, 3)*d.from(0, 15))
		}
		want, ok, least := []int(nil), false, 0
		lists(len(pieces), nil, func(list []int) {
			weight := 0
			for _, i := range list {
				weight += pieces[i]
			}
			for total := range all {
				if total+weight < n.Total.Lo || total+weight > n.Total.Hi {
					return
				}
			}
			if weight <= n.Added && (!ok || weight < least || weight == least && len(list) < len(want)) {
				want, ok, least = slices.Clone(list), true, weight
			}
		})
		l, e := scale.Ballast(b, g, n, pieces)
		switch {
		case ok && (!slices.Equal(l, want) || e != api.OK):
			t.Error("Ballast:", b, g, n, pieces, l, e, want)
		case !ok && (len(l) != 0 || e != api.ErrBad):
			t.Error("Ballast where there is no list:", b, g, n, pieces, l, e)
		}
		switch {
		case !ok:
			bad++
		case len(want) == 0:
			empty++
		default:
			found++
		}
	}
	if found < 80 || empty < 5 || bad < 80 {
		t.Error("too few of a sort:", found, empty, bad)
	}
}

// P4.8: of pieces that are as light those count that are fewer, and of these the first ones.
func TestPiecesThatAreAsLight(t *testing.T) {
	for i, x := range []struct {
		needed int
		pieces []int
		want   []int
		e      api.Errno
	}{
		{10, ints(4, 3, 7, 6, 10), ints(4), api.OK}, {10, ints(4, 3, 7, 6), ints(0, 3), api.OK}, {10, ints(3, 4, 6, 7), ints(0, 3), api.OK}, {10, ints(5, 5, 5), ints(0, 1), api.OK}, {10, ints(0, 10, 0, 10), ints(1), api.OK}, {10, ints(9, 11, 2), ints(1), api.OK}, {10, ints(9, 9, 12), ints(2), api.OK}, {10, ints(1, 2, 3, 4, 0), ints(0, 1, 2, 3), api.OK}, {10, ints(1, 2, 3), nil, api.ErrBad}, {0, ints(0, 1), nil, api.OK}, {0, nil, nil, api.OK}, {1, nil, nil, api.ErrBad},
		{36, ints(1, 2, 3, 4, 5, 6, 7, 8), ints(0, 1, 2, 3, 4, 5, 6, 7), api.OK}, {21, ints(1, 2, 3, 4, 5, 6, 7, 8), ints(5, 6, 7), api.OK}, {14, ints(1, 2, 3, 4, 5, 6, 7, 8), ints(5, 7), api.OK},
	} {
		g := api.Gear{Added: 77}
		if l, e := scale.Ballast(bay(), g, totalOf(x.needed, 1000), x.pieces); !slices.Equal(l, x.want) || e != x.e {
			t.Error(i, l, e)
		}
	}
}

// P4.3, P4.4, R4: gear without loads has one total, whatever scales there are.
func TestGearWithoutLoads(t *testing.T) {
	torn := three()
	torn.Trials = append(torn.Trials, api.Trial{Weight: 100000, Shown: 100100})
	for _, b := range []api.Bay{{}, {Scales: []api.Scale{}}, bay(torn)} {
		for _, g := range []api.Gear{{Added: 70}, {Added: 70, Loads: []api.Load{}, Runners: []int{}, Strokes: []int{}}} {
			if l := mustTotals(t, b, g); !slices.Equal(l, spans(span(70, 70))) {
				t.Error(b, g, l)
			}
			if w, e := scale.Truth(b, g, 70); len(w.Tunes) != 0 || len(w.Weights) != 0 || e != api.OK {
				t.Error(b, g, w, e)
			}
			if w, e := scale.Truth(b, g, 71); len(w.Tunes) != 0 || len(w.Weights) != 0 || e != api.ErrNone {
				t.Error(b, g, w, e)
			}
			if p := mustJudge(t, b, g, totalOf(70, 70)); !slices.Equal(p, []uint8{2, 2, 2, 2, 2}) {
				t.Error(b, g, p)
			}
		}
	}
}

// A scale that has no truth makes a difference only if it has a load; and one load that it cannot have shown leaves none of all.
func TestScalesWithoutATruth(t *testing.T) {
	torn := three()
	torn.Trials = append(torn.Trials, api.Trial{Weight: 100000, Shown: 100100})
	b := bay(torn, five())
	if l := mustTotals(t, b, loads(5, 1000)); !slices.Equal(l, spans(span(1000, 1101))) {
		t.Error(l)
	}
	none := loads(3, 95000)
	none.Loads = append(none.Loads, api.Load{Scale: 5, Shown: 1000})
	// A scale that shows each gram, and a thousandth more, never shows 1,000.
	skips := api.Scale{Id: 7, Step: 1, Gain: span(1, 1)}
	for i, x := range []struct {
		b api.Bay
		g api.Gear
		e api.Errno
	}{
		{b, none, api.ErrNone}, {b, loads(3, 95000), api.ErrNone}, {bay(skips), loads(7, 999), api.OK}, {bay(skips), loads(7, 1000), api.ErrNone}, {bay(skips), loads(7, 1001), api.OK}, {bay(skips), loads(7, 999, 1000, 1001), api.ErrNone}, {bay(skips), loads(7, -1), api.ErrNone}, {bay(skips), loads(7, 0), api.OK}, {bay(skips), loads(7, 1001000), api.OK}, {bay(skips), loads(7, 1001001), api.ErrNone},
	} {
		if l, e := scale.Totals(x.b, x.g); e != x.e || (len(l) > 0) != (e == api.OK) {
			t.Error("Totals:", i, l, e)
		}
		if parts, whole, e := scale.Judge(x.b, x.g, totalOf(0, 10000000)); e != x.e || (len(parts) > 0) != (e == api.OK) || (whole > 0) != (e == api.OK) {
			t.Error("Judge:", i, parts, whole, e)
		}
		if k, e := scale.Again(x.b, x.g, x.g, totalOf(0, 10000000)); e != x.e || (k > 0) != (e == api.OK) {
			t.Error("Again:", i, k, e)
		}
		if l, e := scale.Ballast(x.b, x.g, totalOf(0, 10000000), nil); len(l) != 0 || e != x.e {
			t.Error("Ballast:", i, l, e)
		}
	}
}
