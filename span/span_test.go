package span_test

import (
	"math"
	"testing"

	"kreisel/api"
	"kreisel/span"
)

func of(lo, hi int) api.Span { return api.Span{Lo: lo, Hi: hi} }

func TestWithin(t *testing.T) {
	for i, x := range []struct {
		s       api.Span
		numbers []int
		want    bool
	}{
		{of(2, 5), nil, true}, {of(2, 5), []int{2, 5, 3}, true}, {of(2, 5), []int{1}, false}, {of(2, 5), []int{6}, false}, {of(2, 5), []int{3, 6, 4}, false}, {of(2, 5), []int{3, 4, 1}, false}, {of(5, 2), []int{3}, false}, {of(0, 9), []int{math.MinInt}, false}, {of(0, 9), []int{math.MaxInt}, false},
	} {
		if got := span.Within(x.s, x.numbers...); got != x.want {
			t.Error(i, got)
		}
	}
}

func TestRising(t *testing.T) {
	for i, x := range []struct {
		s       api.Span
		numbers []int
		want    bool
	}{
		{of(2, 5), nil, true}, {of(2, 5), []int{2}, true}, {of(2, 5), []int{2, 3, 5}, true}, {of(2, 5), []int{1, 3}, false}, {of(2, 5), []int{3, 6}, false}, {of(2, 5), []int{3, 3}, false}, {of(2, 5), []int{3, 2}, false}, {of(2, 5), []int{2, 4, 3}, false}, {of(2, 5), []int{2, 9, 4}, false}, {of(0, -1), nil, true}, {of(0, -1), []int{0}, false}, {of(0, 9), []int{math.MinInt, 3}, false}, {of(0, 9), []int{3, math.MaxInt}, false},
	} {
		if got := span.Rising(x.s, x.numbers...); got != x.want {
			t.Error(i, got)
		}
	}
}

func TestFits(t *testing.T) {
	for i, x := range []struct {
		s, in api.Span
		want  bool
	}{
		{of(2, 5), of(2, 5), true}, {of(3, 3), of(2, 5), true}, {of(1, 5), of(2, 5), false}, {of(2, 6), of(2, 5), false}, {of(4, 3), of(2, 5), false}, {of(math.MinInt, math.MaxInt), of(2, 5), false}, {of(math.MaxInt, math.MinInt), of(2, 5), false},
	} {
		if got := span.Fits(x.s, x.in); got != x.want {
			t.Error(i, got)
		}
	}
}

func TestValid(t *testing.T) {
	right, wrong := span.Limit{Told: of(2, 5), In: of(1, 5)}, span.Limit{Told: of(2, 5), In: of(1, 4)}
	for i, x := range []struct {
		limits []span.Limit
		want   bool
	}{
		{nil, true}, {[]span.Limit{right}, true}, {[]span.Limit{right, right}, true}, {[]span.Limit{wrong}, false}, {[]span.Limit{wrong, right}, false}, {[]span.Limit{right, wrong}, false}, {[]span.Limit{right, {Told: of(3, 2), In: of(1, 5)}}, false},
	} {
		if got := span.Valid(x.limits...); got != x.want {
			t.Error(i, got)
		}
	}
}

func TestEnds(t *testing.T) {
	if s := of(-3, 8); span.Low(s) != -3 || span.High(s) != 8 {
		t.Error(span.Low(s), span.High(s))
	}
}

func TestSpansOfSpans(t *testing.T) {
	for i, x := range []struct{ got, want api.Span }{
		{span.One(7), of(7, 7)}, {span.UpTo(7), of(0, 7)}, {span.Around(7), of(-7, 7)}, {span.Around(0), of(0, 0)},
		{span.Plus(of(1, 2), of(10, 30)), of(11, 32)}, {span.Minus(of(1, 2), of(10, 30)), of(-29, -8)},
		{span.Both(of(1, 5), of(3, 9)), of(3, 5)}, {span.Both(of(3, 9), of(1, 5)), of(3, 5)}, {span.Both(of(1, 9), of(3, 5)), of(3, 5)}, {span.Both(of(1, 2), of(2, 3)), of(2, 2)}, {span.Both(of(1, 2), of(4, 5)), of(4, 2)},
	} {
		if x.got != x.want {
			t.Error(i, x.got, x.want)
		}
	}
}

func TestWhole(t *testing.T) {
	for i, x := range []struct {
		list []api.Span
		want api.Span
	}{
		{[]api.Span{of(2, 5)}, of(2, 5)}, {[]api.Span{of(2, 5), of(3, 4)}, of(2, 5)}, {[]api.Span{of(3, 4), of(2, 5)}, of(2, 5)}, {[]api.Span{of(7, 9), of(-3, -1), of(4, 5)}, of(-3, 9)},
	} {
		if got := span.Whole(x.list...); got != x.want {
			t.Error(i, got)
		}
	}
}

func TestFirst(t *testing.T) {
	for from := -3; from < 4; from++ {
		for to := from; to < 9; to++ {
			for least := -5; least < 12; least++ {
				got := span.First(from, to, func(n int) bool {
					if n < from || n >= to {
						t.Error("asked of", n, "from", from, "to", to)
					}
					return n >= least
				})
				if want := min(to, max(from, least)); got != want {
					t.Error(from, to, least, got, want)
				}
			}
		}
	}
}

func TestIndices(t *testing.T) {
	for i, x := range []struct {
		list []string
		want api.Span
	}{
		{nil, of(0, -1)}, {[]string{}, of(0, -1)}, {[]string{"a"}, of(0, 0)}, {[]string{"a", "b", "a"}, of(0, 2)},
	} {
		if got := span.Indices(x.list); got != x.want {
			t.Error(i, got)
		}
	}
}

func TestKnown(t *testing.T) {
	for i, x := range []struct {
		in     api.Span
		others []api.Span
		want   uint8
	}{
		{of(2, 5), []api.Span{of(2, 5)}, api.KnownYes}, {of(2, 5), []api.Span{of(3, 3)}, api.KnownYes}, {of(2, 5), []api.Span{of(1, 2)}, api.KnownOpen}, {of(2, 5), []api.Span{of(5, 6)}, api.KnownOpen}, {of(2, 5), []api.Span{of(0, 9)}, api.KnownOpen}, {of(2, 5), []api.Span{of(0, 1)}, api.KnownNo}, {of(2, 5), []api.Span{of(6, 9)}, api.KnownNo}, {of(0, -1), []api.Span{of(0, 0)}, api.KnownNo},
		{of(2, 5), []api.Span{of(2, 3), of(5, 5)}, api.KnownYes}, {of(2, 5), []api.Span{of(0, 1), of(6, 7)}, api.KnownNo}, {of(2, 5), []api.Span{of(0, 1), of(2, 2)}, api.KnownOpen}, {of(2, 5), []api.Span{of(2, 2), of(0, 1)}, api.KnownOpen}, {of(2, 5), []api.Span{of(2, 2), of(1, 3)}, api.KnownOpen}, {of(2, 5), []api.Span{of(0, 1), of(1, 3)}, api.KnownOpen},
		{of(math.MinInt, math.MaxInt), []api.Span{of(math.MinInt, math.MaxInt)}, api.KnownYes}, {of(math.MinInt, 0), []api.Span{of(1, math.MaxInt)}, api.KnownNo},
	} {
		if got := span.Known(x.in, x.others...); got != x.want {
			t.Error(i, got)
		}
	}
}
