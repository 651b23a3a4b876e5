package slide

// gravity times a head is ten times the square of its speed: a fall is twice 981 centimetres in a second, in each second, and a head is told in tenths of centimetres.
const gravity = 1962

// speedOf returns the speed of a head.
func speedOf(head int) int {
	return first(0, gravity*head+1, func(v int) bool { return v*v*10 > gravity*head }) - 1
}

// speedUp returns the speed of a head, rounded up.
func speedUp(head int) int {
	return first(0, gravity*head, func(v int) bool { return v*v*10 >= gravity*head })
}

// first returns the first number of which something is so, from one number on and before another one, or the latter if there is none. If it is so of a number it has to be so of all behind it.
func first[N ~int](from, to N, so func(number N) bool) N {
	for from < to {
		middle := from + (to-from)/2
		if so(middle) {
			to = middle
		} else {
			from = middle + 1
		}
	}
	return from
}
