package set_test

import (
	"slices"
	"testing"

	"kreisel/set"
)

func ints(l ...int) []int { return l }

func TestAll(t *testing.T) {
	for count, want := range ints(0, 1, 3, 7, 15) {
		if got := set.All(count); got != want {
			t.Error(count, got)
		}
	}
}

func TestHas(t *testing.T) {
	for i, want := range []bool{true, false, true, true, false, false} {
		if got := set.Has(13, i); got != want {
			t.Error(i, got)
		}
	}
}

func TestWithout(t *testing.T) {
	for i, x := range []struct {
		s       int
		indices []int
		want    int
	}{
		{13, nil, 13}, {13, ints(0), 12}, {13, ints(1), 13}, {13, ints(3), 5}, {13, ints(0, 3), 4}, {13, ints(2, 2), 9}, {13, ints(3, 2, 1, 0), 0}, {0, ints(4), 0},
	} {
		if got := set.Without(x.s, x.indices...); got != x.want {
			t.Error(i, got)
		}
	}
}

func TestMembers(t *testing.T) {
	for i, x := range []struct {
		s    int
		want []int
	}{
		{0, nil}, {1, ints(0)}, {2, ints(1)}, {13, ints(0, 2, 3)}, {set.All(8), ints(0, 1, 2, 3, 4, 5, 6, 7)}, {1 << 40, ints(40)},
	} {
		if got := set.Members(x.s); !slices.Equal(got, x.want) {
			t.Error(i, got)
		}
	}
}
