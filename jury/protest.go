package jury

import (
	"kreisel/api"
	"kreisel/list"
	"kreisel/span"
)

// minute is one in thousandths of a second.
const minute = 60000

// about returns the trip of the descent of a protest.
func (c court) about(p api.Protest) trip { return c.trip(c.Race.Heats[p.Heat][p.Sled].Ride) }

// late returns whether a protest is too late: whether the end of its minutes was before it.
func (c court) late(p api.Protest) uint8 {
	end := span.Plus(c.about(p).finish().leaving(), span.One(c.Minutes*minute))
	return span.Known(span.UpTo(p.At-1), end)
}

// granted tells whether a protest is granted.
func (c court) granted(p api.Protest) bool {
	return c.about(p).mayTouch(c.Faults[p.Fault]) && c.late(p) != api.KnownYes
}

// grants returns the indices of all protests that are granted, in increasing order.
func (c court) grants() []int {
	return list.Pick(c.Protests, func(_ int, p api.Protest) bool { return c.granted(p) })
}

// repeats returns for each heat all sleds whose descents are repeated, in increasing order.
func (c court) repeats() [][]int {
	var faults []api.Fault
	for _, i := range c.grants() {
		faults = append(faults, c.Faults[c.Protests[i].Fault])
	}
	return c.hit(faults...)
}
