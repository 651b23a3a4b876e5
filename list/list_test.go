package list_test

import (
	"slices"
	"testing"

	"kreisel/list"
)

func TestPick(t *testing.T) {
	for i, x := range []struct {
		list []string
		so   func(i int, thing string) bool
		want []int
	}{
		{nil, func(int, string) bool { return true }, nil},
		{[]string{"a", "b", "a"}, func(int, string) bool { return true }, []int{0, 1, 2}},
		{[]string{"a", "b", "a"}, func(int, string) bool { return false }, nil},
		{[]string{"a", "b", "a"}, func(_ int, thing string) bool { return thing == "a" }, []int{0, 2}},
		{[]string{"a", "b", "a"}, func(i int, thing string) bool { return i > 0 && thing == "a" }, []int{2}},
	} {
		if got := list.Pick(x.list, x.so); !slices.Equal(got, x.want) {
			t.Error(i, got)
		}
	}
}

func TestCount(t *testing.T) {
	for i, x := range []struct {
		list []string
		so   func(thing string) bool
		want int
	}{
		{nil, func(string) bool { return true }, 0},
		{[]string{"a", "b", "a"}, func(string) bool { return true }, 3},
		{[]string{"a", "b", "a"}, func(string) bool { return false }, 0},
		{[]string{"a", "b", "a"}, func(thing string) bool { return thing == "a" }, 2},
		{[]string{"b"}, func(thing string) bool { return thing == "a" }, 0},
	} {
		if got := list.Count(x.list, x.so); got != x.want {
			t.Error(i, got)
		}
	}
}

func TestFirst(t *testing.T) {
	for i, x := range []struct {
		list []string
		want string
	}{
		{[]string{"b"}, "b"}, {[]string{"b", "a", "c"}, "a"}, {[]string{"c", "b", "a"}, "a"}, {[]string{"a", "b"}, "a"},
	} {
		if got := list.First(x.list, func(a, b string) bool { return a < b }); got != x.want {
			t.Error(i, got)
		}
	}
	// Of several that none is before, the first one.
	if got := list.First([]string{"bb", "a", "c"}, func(a, b string) bool { return len(a) < len(b) }); got != "a" {
		t.Error(got)
	}
}

func TestFewer(t *testing.T) {
	for i, x := range []struct {
		a, b []int
		want bool
	}{
		{nil, nil, false}, {nil, []int{0}, true}, {[]int{0}, nil, false}, {[]int{9}, []int{1, 2}, true}, {[]int{1, 2}, []int{9}, false}, {[]int{1, 5}, []int{2, 3}, true}, {[]int{2, 3}, []int{1, 5}, false}, {[]int{1, 3}, []int{1, 5}, true}, {[]int{1, 5}, []int{1, 5}, false},
	} {
		if got := list.Fewer(x.a, x.b); got != x.want {
			t.Error(i, got)
		}
	}
}
