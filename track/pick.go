package track

// pick returns the indices of all things of a list of which something is so, in increasing order.
func pick[T any](list []T, so func(i int, thing T) bool) []int {
	var picked []int
	for i, thing := range list {
		if so(i, thing) {
			picked = append(picked, i)
		}
	}
	return picked
}
