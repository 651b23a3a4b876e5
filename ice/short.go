package ice

import (
	"kreisel/api"
	"kreisel/list"
	"kreisel/set"
)

// Short returns the first hour for which there is no safe plan, and hours that show it (P2.7).
func Short(c api.Cover) (hour int, hours []int, e api.Errno) {
	if e := Check(c); e != api.OK {
		return 0, nil, e
	}
	w := coat{c}
	needs := w.needs()
	for last := range len(c.Hours) {
		// Hands can be found for all needs just if no hours are short: the greatest flow is the least cut.
		if lists := w.short(needs, last); len(lists) > 0 {
			return last, list.First(lists, list.Fewer), api.OK
		}
	}
	return 0, nil, api.ErrNone
}

// short returns all lists of hours before another one that are short for the needs for it, and for those before it.
func (c coat) short(needs [][]int, last int) [][]int {
	var lists [][]int
	for chosen := range 1 << last {
		asked, hands := 0, 0
		for _, need := range needs {
			asked += c.beyond(need[:last+1], chosen)
		}
		hours := set.Members(chosen)
		for _, hour := range hours {
			hands += c.hands(hour)
		}
		if asked > hands {
			lists = append(lists, hours)
		}
	}
	return lists
}

// beyond returns how often a stretch has to be sprayed in hours of a set, however often it is in all others.
func (c coat) beyond(needs []int, hours int) int {
	most, others := 0, 0
	for hour, need := range needs {
		most = greatest(most, need-others)
		if c.Hours[hour].Cold && !set.Has(hours, hour) {
			others++
		}
	}
	return most
}
