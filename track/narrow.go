package track

import (
	"maps"
	"slices"

	"kreisel/api"
	"kreisel/list"
)

// gaps is by how much each mark may be behind each other one at most: gaps[i][j] is by how much j is behind i. It is below 0 where j is surely before i.
type gaps [api.MaxStretches + 1][api.MaxStretches + 1]int

// Narrow returns what measures leave of a track (P1.4).
func Narrow(t api.Track, m []api.Measure) (api.Track, api.Errno) {
	if e := Check(t); e != api.OK {
		return api.Track{}, e
	}
	if !agreed(t, m) {
		return api.Track{}, api.ErrMeasures
	}
	c := course{api.Track{Stretches: slices.Clone(t.Stretches)}}
	for _, k := range kinds() {
		if !c.narrow(k, m) {
			return api.Track{}, api.ErrBad
		}
	}
	return c.Track, api.OK
}

// Useless returns measures that make no difference (P1.4).
func Useless(t api.Track, m []api.Measure) ([]int, api.Errno) {
	all, e := Narrow(t, m)
	if e != api.OK {
		return nil, e
	}
	return list.Pick(m, func(i int, _ api.Measure) bool {
		// Fewer measures than some that truths agree with cannot contradict each other.
		rest, _ := Narrow(t, without(m, i))
		return slices.Equal(rest.Stretches, all.Stretches)
	}), api.OK
}

// without returns all measures of a list but one.
func without(list []api.Measure, i int) []api.Measure {
	left := map[int]api.Measure{}
	for k, m := range list {
		left[k] = m
	}
	delete(left, i)
	var rest []api.Measure
	for _, k := range slices.Sorted(maps.Keys(left)) {
		rest = append(rest, left[k])
	}
	return rest
}

// narrow leaves in the spans of a kind what measures leave of them; it tells whether any truth agrees with these.
func (c course) narrow(k kind, list []api.Measure) bool {
	g := c.apart(k)
	for _, m := range list {
		if m.Kind == k.number {
			g.bound(m.From, m.To, m.Value)
		}
	}
	if !g.shorten(len(c.Stretches)) {
		return false
	}
	for i := range len(c.Stretches) {
		*k.of(&c.Stretches[i]) = api.Span{Lo: -g[i+1][i], Hi: g[i][i+1]}
	}
	return true
}

// apart returns the gaps that the stretches alone allow.
func (c course) apart(k kind) *gaps {
	var g gaps
	for to := range len(c.Stretches) + 1 {
		for from := range to {
			all := c.between(k, from, to)
			g[from][to], g[to][from] = all.Hi, -all.Lo
		}
	}
	return &g
}

// bound keeps two marks as far apart as a number of a span.
func (g *gaps) bound(from, to int, s api.Span) {
	g[from][to] = min(g[from][to], s.Hi)
	g[to][from] = min(g[to][from], -s.Lo)
}

// shorten lets each gap be no greater than any way round over other marks; it tells whether no mark would have to be before itself, which is so just if there is a truth. All bounds are whole numbers, so each gap comes about in a truth of whole numbers.
func (g *gaps) shorten(last int) bool {
	for over := range last + 1 {
		for from := range last + 1 {
			for to := range last + 1 {
				g[from][to] = min(g[from][to], g[from][over]+g[over][to])
			}
		}
		// Left at once, as gaps would grow without bounds from here on.
		for i := range last + 1 {
			if g[i][i] < 0 {
				return false
			}
		}
	}
	return true
}
