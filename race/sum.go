package race

import (
	"cmp"
	"iter"
	"maps"
	"math"
	"slices"

	"kreisel/api"
	"kreisel/span"
)

// sums are the least and the greatest sum of each sled that has one. Each descent has its own time in a truth, so that each number in between comes about, whatever the other sleds have.
type sums map[int]api.Span

// sums returns the sums of all sleds that are Out in none of the first heats, in these.
func (c contest) sums(heats int) sums {
	all := sums{}
sleds:
	for sled := range len(c.Sleds) {
		add, sum := adder(), api.Span{}
		for heat := range heats {
			time := c.times[heat][sled]
			if time == untimed() {
				continue sleds
			}
			sum = add(time)
		}
		all[sled] = sum
	}
	return all
}

// adder returns a function that adds a time to those that it was given before, each in hundredths, and returns their sum.
func adder() func(time api.Span) api.Span {
	sum := api.Span{}
	return func(time api.Span) api.Span {
		sum = span.Plus(sum, api.Span{Lo: time.Lo / 10, Hi: time.Hi / 10})
		return sum
	}
}

// sleds returns all sleds that have a sum, in increasing order.
func (s sums) sleds() []int { return slices.Sorted(maps.Keys(s)) }

// truths yields the least sum of a sled, and each greater one at which its rank may be another than at the one before.
func (s sums) truths(sled int) iter.Seq[int] {
	return func(yield func(sum int) bool) {
		for sum := s[sled].Lo; sum <= s[sled].Hi; sum = s.change(sum) {
			if !yield(sum) {
				return
			}
		}
	}
}

// change returns the first number above a sum of some sled that is just above an end of the sums of any one; the greatest sum of this sled is such an end.
func (s sums) change(sum int) int {
	next := math.MaxInt
	for _, all := range s {
		for _, end := range [...]int{all.Lo, all.Hi} {
			if end >= sum {
				next = min(next, end+1)
			}
		}
	}
	return next
}

// rank returns the least and the greatest rank of a sled if it has a sum.
func (s sums) rank(sled, sum int) api.Span {
	rank := span.One(1)
	for other, all := range s {
		if other == sled {
			continue
		}
		if all.Hi < sum {
			rank.Lo++
		}
		if all.Lo < sum {
			rank.Hi++
		}
	}
	return rank
}

// ranks returns all ranks that a sled has in some truth, in increasing order.
func (s sums) ranks(sled int) []int {
	var had []api.Span
	for sum := range s.truths(sled) {
		had = append(had, s.rank(sled, sum))
	}
	ranks := map[int]bool{}
	for before := range len(s) {
		ranks[before+1] = true
	}
	for rank := range ranks {
		if !slices.ContainsFunc(had, func(all api.Span) bool { return span.Within(all, rank) }) {
			delete(ranks, rank)
		}
	}
	return slices.Sorted(maps.Keys(ranks))
}

// groups returns all sleds that have a sum, in as many groups as nothing can part.
func (s sums) groups() [][]int {
	var groups [][]int
	greatest := -1
	// By their least sums, so that whoever is surely before a sled is surely before all behind it.
	for _, sled := range inOrder(s.sleds(), func(sled int) int { return s[sled].Lo }) {
		if greatest < s[sled].Lo {
			groups = append(groups, nil)
		}
		last := len(groups) - 1
		groups[last] = append(groups[last], sled)
		greatest = max(greatest, s[sled].Hi)
	}
	for _, group := range groups {
		slices.Sort(group)
	}
	return groups
}

// order returns the order of starts in a heat, which may be the next one.
func (c contest) order(heat int) []int {
	if heat == 0 {
		return slices.Clone(c.Draw)
	}
	before := c.sums(heat)
	left := slices.DeleteFunc(slices.Clone(c.Draw), func(sled int) bool {
		_, ok := before[sled]
		return !ok
	})
	starters := inOrder(left, func(sled int) int { return before[sled].Hi })
	slices.Reverse(starters[:min(c.Turn, len(starters))])
	return starters
}

// inOrder returns things by their numbers, the least one first, and those of equal numbers as they were.
func inOrder[T any](list []T, number func(thing T) int) []T {
	return slices.SortedStableFunc(slices.Values(list), func(a, b T) int { return cmp.Compare(number(a), number(b)) })
}
