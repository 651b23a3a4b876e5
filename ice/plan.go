package ice

import "kreisel/api"

// Need returns how often each stretch is sprayed at least (P2.6).
func Need(c api.Cover) ([]int, api.Errno) {
	if e := Check(c); e != api.OK {
		return nil, e
	}
	var list []int
	for _, need := range (coat{c}).needs() {
		list = append(list, greatest(0, need...))
	}
	return list, api.OK
}

// Plan returns the first one of the safe plans with the fewest sprayings (P2.6).
func Plan(c api.Cover) ([][]int, api.Errno) {
	if e := Check(c); e != api.OK {
		return nil, e
	}
	r := roster{coat{c}, coat{c}.needs(), map[[2]int]bool{}}
	if !r.finishes() {
		return nil, api.ErrBad
	}
	plan := make([][]int, len(c.Hours))
	for hour := range len(c.Hours) {
		for stretch := range len(c.Beds) {
			if r.settle(hour, stretch) {
				plan[hour] = append(plan[hour], stretch)
			}
		}
	}
	return plan, api.OK
}

// needs returns the needs of each stretch for all hours. With as many sprayings as are needed ice is never below 0, so that nothing is made up for at the end of an hour, and layers are all that helps.
func (c coat) needs() [][]int {
	t := c.worst()
	var all [][]int
	for stretch := range len(c.Beds) {
		ice, need := t.made(c.Beds[stretch].Thick), 0
		var list []int
		for hour := range len(c.Hours) {
			ice -= t.loss(stretch, hour)
			need = greatest(need, layers(c.least(hour)-ice, t.made(c.Layer)))
			list = append(list, need)
		}
		all = append(all, list)
	}
	return all
}

// layers returns how many layers are at least as thick as what is lacking; it is not above 0 if nothing is.
func layers(lacking, layer int) int { return (lacking + layer - 1) / layer }

// A roster is a plan that is being made: the needs of each stretch for all hours, and whether a stretch is sprayed in an hour, by pairs of both, as far as this is settled.
type roster struct {
	coat
	needs   [][]int
	settled map[[2]int]bool
}

// settle settles whether a stretch is sprayed in an hour: it is, if the plan can be finished so. It tells whether it is.
func (r roster) settle(hour, stretch int) bool {
	pair := [2]int{hour, stretch}
	// All needs are met before the last hour: ice that is sprayed in it is not asked for.
	last := len(r.Hours) - 1
	if r.idle()[hour] > 0 && r.sprayed(stretch, last) < r.needs[stretch][last] {
		r.settled[pair] = true
		if r.finishes() {
			return true
		}
	}
	r.settled[pair] = false
	return false
}

// sprayed returns in how many hours before one it is settled that a stretch is sprayed.
func (r roster) sprayed(stretch, before int) int {
	count := 0
	for hour := range before {
		if r.settled[[2]int{hour, stretch}] {
			count++
		}
	}
	return count
}

// idle returns for each hour how many hands are left in it.
func (r roster) idle() [api.MaxHours]int {
	var left [api.MaxHours]int
	for hour := range len(r.Hours) {
		left[hour] = r.hands(hour)
		for stretch := range len(r.Beds) {
			if r.settled[[2]int{hour, stretch}] {
				left[hour]--
			}
		}
	}
	return left
}

// finishes tells whether hands can be given to all stretches, in hours for which nothing is settled, as often as each one still needs.
func (r roster) finishes() bool {
	give := r.giver()
	var count [api.MaxStretches]int
	for hour := range len(r.Hours) {
	stretches:
		for stretch := range len(r.Beds) {
			for {
				if r.sprayed(stretch, hour)+count[stretch] >= r.needs[stretch][hour] {
					continue stretches
				}
				if !give(stretch, hour) {
					return false
				}
				count[stretch]++
			}
		}
	}
	return true
}

// giver returns a function that gives a hand to a stretch in an hour before another one, and tells whether it could. If no hand is left it takes one from a stretch for which there is one in another hour: an augmenting path, so that it fails just if no plan has all hands that were asked for.
func (r roster) giver() func(stretch, before int) bool {
	left := r.idle()
	given := map[[2]int]int{} // by pairs of an hour and a stretch: before which hour this hand is needed
	asked := map[[2]int]bool{}
	var find func(stretch, before int) bool
	find = func(stretch, before int) bool {
		for hour := range before {
			pair := [2]int{hour, stretch}
			if _, settled := r.settled[pair]; settled || asked[pair] {
				continue
			}
			asked[pair] = true
			if _, taken := given[pair]; !taken && left[hour] > 0 {
				left[hour]--
				given[pair] = before
				return true
			}
			for _, rival := range rivals(given, pair) {
				if rival != pair && asked[rival] {
					continue
				}
				asked[rival] = true
				until := given[rival]
				if find(rival[1], until) {
					delete(given, rival)
					given[pair] = before
					return true
				}
			}
		}
		return false
	}
	return func(stretch, before int) bool {
		clear(asked)
		return find(stretch, before)
	}
}

// rivals returns all given pairs of which one has to be given up for a pair in an hour in which no hand is left: itself, as no stretch is sprayed twice in an hour, or else any one of its hour.
func rivals(given map[[2]int]int, pair [2]int) [][2]int {
	if _, taken := given[pair]; taken {
		return [][2]int{pair}
	}
	var list [][2]int
	for stretch := range api.MaxStretches {
		rival := [2]int{pair[0], stretch}
		if _, taken := given[rival]; taken {
			list = append(list, rival)
		}
	}
	return list
}
