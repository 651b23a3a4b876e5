package turns

import (
	"slices"

	"kreisel/api"
	"kreisel/track"
)

// up returns how many seconds a lorry needs up, at least and at most.
func (c camp) up() api.Span {
	long, _, _ := track.Drop(c.Line.Track, 0, len(c.Line.Track.Stretches))
	seconds := func(long int) int { return (c.Pace*long + 999) / 1000 }
	return api.Span{Lo: seconds(long.Lo), Hi: seconds(long.Hi)}
}

// lorries returns a function that tells when a sled leaves the finish that came there at a time. It has to be asked run by run: as sleds come in this order, no lorry before the one that fills up has a seat for a later sled.
func (c camp) lorries() func(came int) int {
	leaves, seats := 0, 0
	return func(came int) int {
		first := (came + c.Every - 1) / c.Every * c.Every
		if seats == 0 {
			first = max(first, leaves+c.Every)
		}
		if first > leaves {
			leaves, seats = first, c.Seats
		}
		seats--
		return leaves
	}
}

// A sled is one that went down: whose it is, and when it is up again.
type sled struct{ nation, up int }

// ready returns from when on a sled of a nation is at the start, if some sleds were below when the last run started.
func (c camp) ready(nation int, below map[int]sled) int {
	var ups []int
	for _, s := range below {
		if s.nation == nation {
			ups = append(ups, s.up)
		}
	}
	if len(ups) < c.Nations[nation].Sleds {
		return 0
	}
	return slices.Min(ups)
}

// starts returns when each run starts, if lorries need as long as they may.
func (c camp) starts() []int {
	var starts []int
	leaves, up := c.lorries(), c.up().Hi
	below := map[int]sled{} // by their runs
	next := 0
	for nation := range c.turns() {
		start := max(next, c.ready(nation, below))
		for run, s := range below {
			if s.up <= start {
				delete(below, run)
			}
		}
		below[len(starts)] = sled{nation, leaves(start+c.Down) + up}
		starts, next = append(starts, start), start+c.Gap
	}
	return starts
}
