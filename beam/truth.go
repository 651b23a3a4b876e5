package beam

import (
	"iter"
	"slices"

	"kreisel/api"
	"kreisel/span"
)

// A tally is how many of the beams that a sled passed, from the first one on, had a signal that was right, and how many missed it.
type tally struct{ right, missed int }

// passed returns how many beams the sled passed.
func (t tally) passed() int { return t.right + t.missed }

// tallies returns all tallies of a number of beams.
func tallies(passed int) []tally {
	var list []tally
	for right := range passed + 1 {
		list = append(list, tally{right, passed - right})
	}
	return list
}

// none stands for a signal where a beam missed the sled.
const none = -1

// A pass is how the last beam of a tally was passed: by which signal, and at which times.
type pass struct {
	tally
	signal int
	times  api.Span
}

// beam returns which beam was passed.
func (p pass) beam() int { return p.passed() - 1 }

// A search is a valid ride at work, on a valid line. What is possible at later beams depends on no more than a tally and a time, and the earlier the sled comes, the more is possible.
type search struct {
	line
	api.Ride
	needs   []int              // the least time to each beam
	heard   []map[int]api.Span // the times of the signals of each beam
	soonest map[tally]int      // when the last beam of a tally was passed at the earliest, and of none the start
	latest  map[tally]int      // when it was at the latest in a truth, whatever was before
}

// follow returns Check's error; ErrRide unless a ride is valid; ErrArg unless some numbers are indices of beams; and ErrBad if the ride has no truth.
func follow(l api.Line, r api.Ride, beams ...int) (search, api.Errno) {
	if e := Check(l); e != api.OK {
		return search{}, e
	}
	s := search{line: line{l}, Ride: r}
	if !s.rides(r) {
		return search{}, api.ErrRide
	}
	if !span.Within(span.Indices(l.Beams), beams...) {
		return search{}, api.ErrArg
	}
	s.needs, s.heard = s.listen()
	s.soonest = s.forth()
	if len(s.where()) == 0 {
		return search{}, api.ErrBad
	}
	s.latest = s.back()
	return s, api.OK
}

// listen returns the least time to each beam, and the times of its signals, by their indices.
func (s search) listen() (needs []int, heard []map[int]api.Span) {
	for beam := range len(s.Beams) {
		needs = append(needs, s.least(beam))
		heard = append(heard, map[int]api.Span{})
	}
	for i, signal := range s.Signals {
		heard[signal.Beam][i] = s.times(signal)
	}
	return needs, heard
}

// next returns all ways to pass the beam behind those of a tally, whatever the times are, and how many beams may miss the sled.
func (s search) next(t tally) []pass {
	list := []pass{{tally{t.right, t.missed + 1}, none, day()}}
	for signal, times := range s.heard[t.passed()] {
		list = append(list, pass{tally{t.right + 1, t.missed}, signal, times})
	}
	return list
}

// forth returns when the last beam of each tally was passed at the earliest, beam by beam.
func (s search) forth() map[tally]int {
	soonest := map[tally]int{{}: s.Start}
	for beam := range len(s.Beams) {
		for _, t := range tallies(beam) {
			before, ok := soonest[t]
			if !ok {
				continue
			}
			for _, p := range s.next(t) {
				at := max(before+s.needs[beam], p.times.Lo)
				if at > min(s.Now, p.times.Hi) {
					continue
				}
				if best, ok := soonest[p.tally]; !ok || at < best {
					soonest[p.tally] = at
				}
			}
		}
	}
	return soonest
}

// back returns when the last beam of each tally was passed at the latest, beam by beam from the last one on.
func (s search) back() map[tally]int {
	latest := map[tally]int{}
	for t := range s.truths() {
		latest[t] = s.Now
	}
	for left := range len(s.Beams) {
		beam := len(s.Beams) - 1 - left
		for _, t := range tallies(beam) {
			for _, p := range s.next(t) {
				behind, ok := latest[p.tally]
				at := min(behind, p.times.Hi)
				if !ok || at < p.times.Lo {
					continue
				}
				if best, ok := latest[t]; !ok || at-s.needs[beam] > best {
					latest[t] = at - s.needs[beam]
				}
			}
		}
	}
	return latest
}

// truths yields the tallies of all beams that the sled passed, of all truths, over how many signals were right.
func (s search) truths() iter.Seq[tally] {
	return func(yield func(tally) bool) {
		for right := max(0, len(s.Signals)-s.Fakes); right <= len(s.Signals); right++ {
			for missed := range s.Misses + 1 {
				t := tally{right, missed}
				if _, ok := s.soonest[t]; ok && !yield(t) {
					return
				}
			}
		}
	}
}

// where returns how many beams the sled passed in truths, in increasing order.
func (s search) where() []int {
	var list []int
	for t := range s.truths() {
		list = append(list, t.passed())
	}
	slices.Sort(list)
	return slices.Compact(list)
}

// passes returns how beams were passed in truths, in no order.
func (s search) passes() []pass {
	var list []pass
	for t, before := range s.soonest {
		if t.passed() == len(s.Beams) {
			continue
		}
		for _, p := range s.next(t) {
			behind, ok := s.latest[p.tally]
			p.times = span.Both(p.times, api.Span{Lo: before + s.needs[p.beam()], Hi: behind})
			if ok && p.times.Lo <= p.times.Hi {
				list = append(list, p)
			}
		}
	}
	return list
}
