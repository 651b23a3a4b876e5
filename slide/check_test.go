package slide_test

import (
	"math"
	"slices"
	"testing"

	"kreisel/api"
	"kreisel/slide"
)

// far are numbers that no field allows.
var far = []int{math.MinInt, math.MinInt + 1, math.MinInt32, math.MaxInt32 + 1, math.MaxInt - 1, math.MaxInt}

// A field is one of a sled's spans, and from where to where it may be.
type field struct {
	of     func(s *api.Sled) *api.Span
	lo, hi int
}

func fields() []field {
	return []field{
		{func(s *api.Sled) *api.Span { return &s.Start }, 0, api.MaxHead},
		{func(s *api.Sled) *api.Span { return &s.Rub }, 0, api.MaxRub},
		{func(s *api.Sled) *api.Span { return &s.Drag }, 0, api.MaxDrag},
		{func(s *api.Sled) *api.Span { return &s.Weight }, api.MinMass, api.MaxMass},
		{func(s *api.Sled) *api.Span { return &s.Steer }, -api.MaxSteer, api.MaxSteer},
	}
}

// P3.1, R5: each span has its ends, and however far it is beyond them is the same error.
func TestCheckOfSpans(t *testing.T) {
	for i, f := range fields() {
		middle := (f.lo + f.hi) / 2
		for _, x := range []struct {
			s api.Span
			e api.Errno
		}{
			{span(f.lo, f.hi), api.OK}, {span(f.lo, f.lo), api.OK}, {span(f.hi, f.hi), api.OK}, {span(middle, middle), api.OK}, {span(f.hi, f.lo), api.ErrSled}, {span(middle+1, middle), api.ErrSled},
			{span(f.lo-1, f.hi), api.ErrSled}, {span(f.lo, f.hi+1), api.ErrSled}, {span(f.lo-1, f.lo-1), api.ErrSled}, {span(f.hi+1, f.hi+1), api.ErrSled},
		} {
			s := bob()
			*f.of(&s) = x.s
			if e := slide.Check(s); e != x.e {
				t.Error(i, x, e)
			}
		}
		for _, n := range far {
			for _, x := range []api.Span{span(n, f.hi), span(f.lo, n), span(n, n)} {
				s := bob()
				*f.of(&s) = x
				if e := slide.Check(s); e != api.ErrSled {
					t.Error(i, x, e)
				}
			}
		}
	}
}

// R6: classes that the chapter does not list are not valid.
func TestClassesThatAreListed(t *testing.T) {
	for n := range 256 {
		want := api.ErrSled
		if slices.Contains(ints(api.ClassBob, api.ClassSkeleton, api.ClassLuge), n) {
			want = api.OK
		}
		if e := slide.Check(bob(func(s *api.Sled) { s.Class = uint8(n) })); e != want {
			t.Error(n, e)
		}
	}
	if e := slide.Check(api.Sled{}); e != api.ErrSled {
		t.Error(e)
	}
}

// The class makes no difference for what is told.
func TestClassesAreAlike(t *testing.T) {
	d := newDice(13)
	for range 50 {
		r, s := d.track(5), d.sled()
		want := results(r, s, 1)
		for _, class := range []uint8{api.ClassBob, api.ClassSkeleton, api.ClassLuge} {
			s.Class = class
			if got := results(r, s, 1); !slices.EqualFunc(got, want, same) {
				t.Error(r, s, got, want)
			}
		}
	}
}

// A result is what a call returned, as a list of numbers.
type result struct {
	name    string
	numbers []int
	e       api.Errno
}

func same(a, b result) bool {
	return a.name == b.name && a.e == b.e && slices.Equal(a.numbers, b.numbers)
}

// results calls all functions with a track.
func results(t api.Track, s api.Sled, i int) []result {
	heads, e1 := slide.Heads(t, s)
	var ends []int
	for _, h := range heads {
		ends = append(ends, h.Lo, h.Hi)
	}
	speed, e2 := slide.Speed(t, s, i)
	height, e3 := slide.Height(t, s, i)
	safe, e4 := slide.Safe(t, s)
	curve, named, e5 := slide.Names(t, s)
	start, e6 := slide.Start(t, s)
	walls, e7 := slide.Walls(t, s)
	least, e8 := slide.Least(t, s, i)
	shut, e9 := slide.Shut(t, []api.Sled{s})
	return []result{
		{"Heads", ends, e1}, {"Speed", ints(speed.Lo, speed.Hi), e2}, {"Height", ints(height.Lo, height.Hi), e3}, {"Safe", ints(int(safe)), e4}, {"Names", ints(curve, named), e5}, {"Start", ints(start), e6}, {"Walls", walls, e7}, {"Least", ints(least), e8}, {"Shut", shut, e9},
	}
}

// zero tells whether all numbers are 0.
func zero(numbers []int) bool {
	return !slices.ContainsFunc(numbers, func(n int) bool { return n != 0 })
}

// P3.1, R1, R2: the error of the track comes first, then that of the sled, then that of a mark or a stretch; nothing is returned with it.
func TestErrorsInOrder(t *testing.T) {
	wrongTrack := run(-1)
	wrongSled := bob(func(s *api.Sled) { s.Steer.Hi = 501 })
	for _, x := range []struct {
		t api.Track
		s api.Sled
		e api.Errno
	}{{api.Track{}, bob(), api.ErrTrack}, {wrongTrack, bob(), api.ErrTrack}, {wrongTrack, wrongSled, api.ErrTrack}, {run(100), wrongSled, api.ErrSled}, {run(100), api.Sled{}, api.ErrSled}} {
		for _, i := range []int{-1, 1, 3} {
			for _, r := range results(x.t, x.s, i) {
				if r.e != x.e || !zero(r.numbers) {
					t.Error(i, r, x.e)
				}
			}
		}
	}
	many := slices.Repeat([]api.Sled{wrongSled}, 7)
	if l, e := slide.Shut(wrongTrack, many); len(l) != 0 || e != api.ErrTrack {
		t.Error(l, e)
	}
	if l, e := slide.Shut(run(100), many); len(l) != 0 || e != api.ErrMany {
		t.Error(l, e)
	}
	if l, e := slide.Shut(wrongTrack, nil); len(l) != 0 || e != api.ErrTrack {
		t.Error(l, e)
	}
}

// P3.2, P3.6, R5: marks, curves and stretches that are none.
func TestMarksAndStretchesThatAreNone(t *testing.T) {
	for _, n := range append([]int{-1, 0, 1, 2, 3, 4, 12}, far...) {
		speed, e := slide.Speed(run(100), bob(), n)
		if mark := n >= 0 && n <= 3; mark != (e == api.OK) || !mark && (e != api.ErrArg || speed != span(0, 0)) {
			t.Error(n, speed, e)
		}
		height, e := slide.Height(run(100), bob(), n)
		if n == 1 != (e == api.OK) || n != 1 && (e != api.ErrArg || height != span(0, 0)) {
			t.Error(n, height, e)
		}
		least, e := slide.Least(run(100), bob(), n)
		if stretch := n >= 0 && n <= 2; stretch != (e == api.OK) || !stretch && (e != api.ErrArg || least != 0) {
			t.Error(n, least, e)
		}
	}
	// That there is no such stretch is told before that it stands.
	still := plain(span(0, 0))
	if n, e := slide.Least(bend(500, 0), still, 1); n != 0 || e != api.ErrArg {
		t.Error(n, e)
	}
	if n, e := slide.Least(bend(500, 0), still, 0); n != 0 || e != api.ErrNone {
		t.Error(n, e)
	}
}
