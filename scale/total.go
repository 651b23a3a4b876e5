package scale

import (
	"iter"
	"slices"
	"sort"

	"kreisel/api"
	"kreisel/span"
)

// A weighing is a valid bay at work, with valid gear that was weighed on its scales.
type weighing struct {
	api.Bay
	gear api.Gear
	used map[int][]int // what each scale with a load showed, by its Id
}

// weigh returns a bay with gear on it.
func weigh(b api.Bay, g api.Gear) weighing {
	used := map[int][]int{}
	for _, s := range b.Scales {
		used[s.Id] = nil
	}
	for _, l := range g.Loads {
		used[l.Scale] = append(used[l.Scale], l.Shown)
	}
	for _, s := range b.Scales {
		if len(used[s.Id]) == 0 {
			delete(used, s.Id)
		}
	}
	return weighing{b, g, used}
}

// inUse returns the scales with a load, in the order of the bay.
func (w weighing) inUse() []api.Scale {
	var list []api.Scale
	for _, s := range w.Scales {
		if _, ok := w.used[s.Id]; ok {
			list = append(list, s)
		}
	}
	return list
}

// A truth is a gain and an offset of a scale, with which there is a weight for each of its loads, and the sums of such weights.
type truth struct {
	gain, off int
	sums      api.Span
}

// truths yields all truths of a scale with its loads, the least gain first, and of equal gains the least offset.
func (w weighing) truths(s api.Scale) iter.Seq[truth] {
	return func(yield func(truth) bool) {
		for t := range tunes(s) {
			for off := t.Off.Lo; off <= t.Off.Hi; off++ {
				sums, ok := sumsOf(s, t.Gain, off, w.used[s.Id])
				if ok && !yield(truth{t.Gain, off, sums}) {
					return
				}
			}
		}
	}
}

// sumsOf returns the sums of weights for which a scale with a gain and an offset shows some numbers, and whether there is one for each number.
func sumsOf(s api.Scale, gain, off int, shown []int) (api.Span, bool) {
	var sums api.Span
	for _, n := range shown {
		weight := weights(s, gain, off, n)
		if weight.Lo > weight.Hi {
			return api.Span{}, false
		}
		sums = span.Plus(sums, weight)
	}
	return sums, true
}

// totals returns for each scale with a load which totals there are of the loads on it, of those on all scales behind it, and of what is added; and last those of what is added alone.
func (w weighing) totals() [][]api.Span {
	scales := w.inUse()
	list := make([][]api.Span, len(scales)+1)
	list[len(scales)] = []api.Span{span.One(w.gear.Added)}
	add := func(i int) {
		alone := together(slices.Collect(w.truths(scales[i])), []api.Span{{}}, func(t truth) api.Span { return t.sums })
		list[i] = together(alone, list[i+1], func(s api.Span) api.Span { return s })
	}
	for i := range slices.Backward(scales) {
		add(i)
	}
	return list
}

// together returns all sums of a number of some thing's span and a number of other spans, as spans in increasing order, as few as there can be. The other spans have to be in increasing order.
func together[T any](things []T, others []api.Span, of func(thing T) api.Span) []api.Span {
	if len(things) == 0 || len(others) == 0 {
		return nil
	}
	all := of(things[0])
	for _, thing := range things {
		s := of(thing)
		all = api.Span{Lo: min(all.Lo, s.Lo), Hi: max(all.Hi, s.Hi)}
	}
	all = span.Plus(all, api.Span{Lo: others[0].Lo, Hi: others[len(others)-1].Hi})
	// How many spans begin at a number, less how many end right before it: there are so many pairs of spans that to sort them would take far longer.
	turns := make([]int, all.Hi-all.Lo+2)
	for _, thing := range things {
		s := of(thing)
		for _, o := range others {
			turns[s.Lo+o.Lo-all.Lo]++
			turns[s.Hi+o.Hi+1-all.Lo]--
		}
	}
	return covered(turns, all.Lo)
}

// covered returns the numbers in which more spans have begun than ended, if turns tells how many more do at each number, from a first one on.
func covered(turns []int, first int) []api.Span {
	var list []api.Span
	open := 0
	for i, turn := range turns {
		if open == 0 && turn > 0 {
			list = append(list, span.One(first+i))
		}
		open += turn
		if open == 0 && turn < 0 {
			list[len(list)-1].Hi = first + i - 1
		}
	}
	return list
}

// meets tells whether spans in increasing order have a number that is of another span.
func meets(list []api.Span, s api.Span) bool {
	i := sort.Search(len(list), func(i int) bool { return list[i].Hi >= s.Lo })
	return i < len(list) && list[i].Lo <= s.Hi
}

// common returns the numbers that two lists of spans in increasing order have both.
func common(a, b []api.Span) []api.Span {
	var list []api.Span
	for len(a) > 0 && len(b) > 0 {
		if both := span.Both(a[0], b[0]); both.Lo <= both.Hi {
			list = append(list, both)
		}
		if a[0].Hi < b[0].Hi {
			a = a[1:]
		} else {
			b = b[1:]
		}
	}
	return list
}

// choose returns the first truth of each scale with a load with which there is a total that is one of all totals.
func (w weighing) choose(total int, totals [][]api.Span) []truth {
	var chosen []truth
	rest := span.One(total)
	for i, s := range w.inUse() {
		for t := range w.truths(s) {
			if left := span.Minus(rest, t.sums); meets(totals[i+1], left) {
				chosen, rest = append(chosen, t), left
				break
			}
		}
	}
	return chosen
}

// share returns the first weights of all loads that come to a total, with the truths of the scales with a load.
func (w weighing) share(total int, chosen []truth) []int {
	can := map[int]func(shown int) api.Span{}
	for i, s := range w.inUse() {
		can[s.Id] = func(shown int) api.Span { return weights(s, chosen[i].gain, chosen[i].off, shown) }
	}
	heaviest := 0
	for _, l := range w.gear.Loads {
		heaviest += can[l.Scale](l.Shown).Hi
	}
	var list []int
	rest := total - w.gear.Added
	for _, l := range w.gear.Loads {
		weight := can[l.Scale](l.Shown)
		heaviest -= weight.Hi
		least := max(weight.Lo, rest-heaviest)
		list = append(list, least)
		rest -= least
	}
	return list
}
