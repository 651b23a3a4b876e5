package list_test

import (
	"slices"
	"testing"

	"kreisel/list"
)

func TestPick(t *testing.T) {
	for i, x := range []struct {
		list []string
		so   func(i int, thing string) bool
		want []int
	}{
		{nil, func(int, string) bool { return true }, nil},
		{[]string{"a", "b", "a"}, func(int, string) bool { return true }, []int{0, 1, 2}},
		{[]string{"a", "b", "a"}, func(int, string) bool { return false }, nil},
		{[]string{"a", "b", "a"}, func(_ int, thing string) bool { return thing == "a" }, []int{0, 2}},
		{[]string{"a", "b", "a"}, func(i int, thing string) bool { return i > 0 && thing == "a" }, []int{2}},
	} {
		if got := list.Pick(x.list, x.so); !slices.Equal(got, x.want) {
			t.Error(i, got)
		}
	}
}

func TestCount(t *testing.T) {
	for i, x := range []struct {
		list []string
		so   func(thing string) bool
		want int
	}{
		{nil, func(string) bool { return true }, 0},
		{[]string{"a", "b", "a"}, func(string) bool { return true }, 3},
		{[]string{"a", "b", "a"}, func(string) bool { return false }, 0},
		{[]string{"a", "b", "a"}, func(thing string) bool { return thing == "a" }, 2},
		{[]string{"b"}, func(thing string) bool { return thing == "a" }, 0},
	} {
		if got := list.Count(x.list, x.so); got != x.want {
			t.Error(i, got)
		}
	}
}
