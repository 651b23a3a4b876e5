package slide

import "kreisel/span"

// gravity times a head is ten times the square of its speed: a fall is twice 981 centimetres in a second, in each second, and a head is told in tenths of centimetres.
const gravity = 1962

// speedOf returns the speed of a head.
func speedOf(head int) int {
	return span.First(0, gravity*head+1, func(v int) bool { return v*v*10 > gravity*head }) - 1
}

// speedUp returns the speed of a head, rounded up.
func speedUp(head int) int {
	return span.First(0, gravity*head, func(v int) bool { return v*v*10 >= gravity*head })
}
