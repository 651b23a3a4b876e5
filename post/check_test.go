package post_test

import (
	"fmt"
	"math"
	"slices"
	"testing"

	"kreisel/api"
	"kreisel/post"
)

// far are numbers that no field allows.
var far = []int{math.MinInt, math.MinInt + 1, math.MinInt32, math.MaxInt32 + 1, math.MaxInt - 1, math.MaxInt}

// An asked is all that a call may be asked about.
type asked struct {
	g                   api.Guard
	post, stretch, need int
	empty               []int
}

// ask returns what the chapter's examples ask about, with another need, and a tower that may stand in several places.
func ask() asked {
	return asked{guard(func(g *api.Guard) {
		g.Tower = spot(0, 4000, 4500)
		g.Needs = append(g.Needs, need(0, api.PostBrakeman, 90))
	}), 0, 1, 0, ints(1)}
}

// A result is what a call returned, as a text, and that of a zero value.
type result struct {
	name       string
	text, zero string
	e          api.Errno
}

// gave returns the result of a call; nil and an empty list have the same text.
func gave[T any](name string, value T, e api.Errno) result {
	var zero T
	return result{name, fmt.Sprint(value), fmt.Sprint(zero), e}
}

// calls calls all functions.
func calls(x asked) []result {
	far, e1 := post.Far(x.g, x.post, x.stretch)
	time, e2 := post.Time(x.g, x.post, x.stretch)
	called, e3 := post.Called(x.g, x.empty)
	meets, e4 := post.Meets(x.g, x.need, x.empty)
	lacks, e5 := post.Lacks(x.g, x.empty)
	weak, e6 := post.Weak(x.g)
	fewest, e7 := post.Fewest(x.g)
	spare, e8 := post.Spare(x.g)
	return []result{
		gave("Check", 0, post.Check(x.g)), gave("Far", far, e1), gave("Time", time, e2), gave("Called", called, e3), gave("Meets", meets, e4),
		gave("Lacks", lacks, e5), gave("Weak", weak, e6), gave("Fewest", fewest, e7), gave("Spare", spare, e8),
	}
}

// all are the functions that tell of a guard that is not valid.
func all() []string {
	return []string{"Check", "Far", "Time", "Called", "Meets", "Lacks", "Weak", "Fewest", "Spare"}
}

// right tells whether a result has an error, with nothing else; that there is nothing may always be told of weak and of fewest posts.
func (r result) right(want api.Errno) bool {
	if want == api.OK && (r.name == "Weak" || r.name == "Fewest") && r.e == api.ErrNone {
		want = api.ErrNone
	}
	return r.e == want && (r.e == api.OK || r.text == r.zero)
}

// checked reports each call that does not return an error of a guard, if there has to be one, and each one that returns one, if there is none.
func checked(t *testing.T, about any, x asked, want api.Errno) {
	t.Helper()
	x.post, x.stretch, x.need, x.empty = 0, 0, 0, nil
	for _, r := range calls(x) {
		// With no posts, or no needs, there are none to ask about.
		if nothing := len(x.g.Posts) == 0 && (r.name == "Far" || r.name == "Time") || len(x.g.Needs) == 0 && r.name == "Meets"; nothing && want == api.OK {
			if !r.right(api.ErrArg) {
				t.Error(about, r, want)
			}
			continue
		}
		if !r.right(want) {
			t.Error(about, r, want)
		}
	}
}

// A number is one that is asked about, from where to where it may be, and by which functions.
type number struct {
	name   string
	of     func(x *asked) *int
	lo, hi int
	e      api.Errno
	by     []string
}

func numbers() []number {
	list := []number{
		{"Radio", func(x *asked) *int { return &x.g.Radio }, 0, api.MaxRadios, api.ErrGuard, all()},
		{"the tower's stretch", func(x *asked) *int { return &x.g.Tower.Stretch }, 0, 1, api.ErrGuard, all()},
		{"the tower's least place", func(x *asked) *int { return &x.g.Tower.Off.Lo }, 0, 4500, api.ErrGuard, all()},
		{"the tower's greatest place", func(x *asked) *int { return &x.g.Tower.Off.Hi }, 4000, 9999, api.ErrGuard, all()},
		{"the first Id", func(x *asked) *int { return &x.g.Posts[0].Id }, 0, 4, api.ErrGuard, all()},
		{"the second Id", func(x *asked) *int { return &x.g.Posts[1].Id }, 3, 5, api.ErrGuard, all()},
		{"the last Id", func(x *asked) *int { return &x.g.Posts[2].Id }, 6, api.MaxId, api.ErrGuard, all()},
		{"the first post's least place", func(x *asked) *int { return &x.g.Posts[0].Spot.Off.Lo }, 0, 9000, api.ErrGuard, all()},
		{"the first post's greatest place", func(x *asked) *int { return &x.g.Posts[0].Spot.Off.Hi }, 9000, 9999, api.ErrGuard, all()},
		{"the last post's stretch", func(x *asked) *int { return &x.g.Posts[2].Spot.Stretch }, 0, 1, api.ErrGuard, all()},
		{"the last post's least place", func(x *asked) *int { return &x.g.Posts[2].Spot.Off.Lo }, 0, 4000, api.ErrGuard, all()},
		{"the last post's greatest place", func(x *asked) *int { return &x.g.Posts[2].Spot.Off.Hi }, 4000, 4999, api.ErrGuard, all()},
		{"post", func(x *asked) *int { return &x.post }, 0, 2, api.ErrArg, []string{"Far", "Time"}},
		{"stretch", func(x *asked) *int { return &x.stretch }, 0, 1, api.ErrArg, []string{"Far", "Time"}},
		{"need", func(x *asked) *int { return &x.need }, 0, 1, api.ErrArg, []string{"Meets"}},
		{"empty", func(x *asked) *int { return &x.empty[0] }, 0, 2, api.ErrArg, []string{"Called", "Meets", "Lacks"}},
	}
	for i := range 3 {
		list = append(list,
			number{fmt.Sprint("Delay of ", i), func(x *asked) *int { return &x.g.Posts[i].Delay }, 0, api.MaxSecs, api.ErrGuard, all()},
			number{fmt.Sprint("Pace of ", i), func(x *asked) *int { return &x.g.Posts[i].Pace }, 1, api.MaxPace, api.ErrGuard, all()},
		)
	}
	for i := range 2 {
		list = append(list,
			number{fmt.Sprint("stretch of the need ", i), func(x *asked) *int { return &x.g.Needs[i].Stretch }, 0, 1, api.ErrGuard, all()},
			number{fmt.Sprint("Seconds of the need ", i), func(x *asked) *int { return &x.g.Needs[i].Seconds }, 0, api.MaxSecs, api.ErrGuard, all()},
		)
	}
	return list
}

// P9.1 to P9.3, R5: each number has its ends, and however far it is beyond them is the same error.
func TestNumbersHaveEnds(t *testing.T) {
	// told asks with one number changed.
	told := func(f number, n int, want api.Errno) {
		x := ask()
		*f.of(&x) = n
		for _, r := range calls(x) {
			if slices.Contains(f.by, r.name) && !r.right(want) {
				t.Error(f.name, n, r, want)
			}
		}
	}
	for _, f := range numbers() {
		for _, n := range []int{f.lo, (f.lo + f.hi) / 2, f.hi} {
			told(f, n, api.OK)
		}
		for _, n := range append([]int{f.lo - 1, f.hi + 1}, far...) {
			told(f, n, f.e)
		}
	}
}

// P9.1, R6: there are three kinds of posts, and of needs.
func TestKinds(t *testing.T) {
	for kind := range 256 {
		want := api.ErrGuard
		if kind == api.PostDoctor || kind == api.PostAmbulance || kind == api.PostBrakeman {
			want = api.OK
		}
		for i := range 3 {
			x := ask()
			x.g.Posts[i].Kind = uint8(kind)
			checked(t, []int{kind, i}, x, want)
		}
		for i := range 2 {
			x := ask()
			x.g.Needs[i].Kind = uint8(kind)
			checked(t, []int{kind, i}, x, want)
		}
	}
}

// P9.1: no list is longer than its limit; there may be no posts, and no needs.
func TestListsHaveLimits(t *testing.T) {
	for posts := range api.MaxPosts + 4 {
		for needs := range api.MaxNeeds + 4 {
			x, want := ask(), api.OK
			x.g.Posts, x.g.Needs = nil, slices.Repeat(x.g.Needs[:1], needs)
			for i := range posts {
				x.g.Posts = append(x.g.Posts, doctor(i, spot(0, i, i), 0))
			}
			if posts > api.MaxPosts || needs > api.MaxNeeds {
				want = api.ErrGuard
			}
			checked(t, []int{posts, needs}, x, want)
		}
	}
}

// P9.1: posts are by Id, and no two have the same one.
func TestPostsAreInOrder(t *testing.T) {
	for n := range 5 * 5 * 5 {
		ids := ints(n%5-1, n/5%5-1, n/25-1)
		x, want := ask(), api.ErrGuard
		for i, id := range ids {
			x.g.Posts[i].Id = id
		}
		if ids[0] >= 0 && ids[0] < ids[1] && ids[1] < ids[2] {
			want = api.OK
		}
		checked(t, ids, x, want)
	}
}

// P9.2, P9.3: empty posts are indices in increasing order, no one twice.
func TestEmptyPosts(t *testing.T) {
	for n := range 6 * 6 * 6 * 6 {
		empty := ints(n%6-1, n/6%6-1, n/36%6-1, n/216-1)
		// A 4 ends the list.
		if end := slices.Index(empty, 4); end >= 0 {
			empty = empty[:end]
		}
		want := api.OK
		for i, index := range empty {
			if index < 0 || index > 2 || i > 0 && empty[i-1] >= index {
				want = api.ErrArg
			}
		}
		x := ask()
		x.empty = empty
		for _, r := range calls(x) {
			if slices.Contains([]string{"Called", "Meets", "Lacks"}, r.name) && !r.right(want) {
				t.Error(empty, r, want)
			}
		}
	}
	// Without posts there are none that are empty.
	for _, empty := range [][]int{ints(0), ints(-1), ints(math.MaxInt)} {
		if l, e := post.Called(guard(func(g *api.Guard) { g.Posts = nil }), empty); len(l) != 0 || e != api.ErrArg {
			t.Error(empty, l, e)
		}
	}
}

// P9.1: spots are valid by the least length of their stretch, with ends in order.
func TestSpots(t *testing.T) {
	for i, x := range []struct {
		s api.Spot
		e api.Errno
	}{
		{spot(0, 0, 0), api.OK}, {spot(0, 0, 9999), api.OK}, {spot(0, 9999, 9999), api.OK}, {spot(0, 10000, 10000), api.ErrGuard}, {spot(0, 0, 10000), api.ErrGuard}, {spot(0, 2, 1), api.ErrGuard}, {spot(0, -1, 1), api.ErrGuard}, {spot(0, math.MinInt, math.MaxInt), api.ErrGuard}, {spot(0, math.MaxInt, math.MinInt), api.ErrGuard},
		{spot(1, 0, 4999), api.OK}, {spot(1, 0, 5000), api.ErrGuard}, {spot(2, 0, 0), api.ErrGuard}, {spot(-1, 0, 0), api.ErrGuard}, {spot(math.MinInt, 0, 0), api.ErrGuard}, {spot(math.MaxInt, 0, 0), api.ErrGuard},
	} {
		for k := range 4 {
			y := ask()
			*[]*api.Spot{&y.g.Tower, &y.g.Posts[0].Spot, &y.g.Posts[1].Spot, &y.g.Posts[2].Spot}[k] = x.s
			checked(t, []int{i, k}, y, x.e)
		}
	}
}

// P9.1: one that is wrong is found wherever it stands.
func TestOneOfSeveralIsWrong(t *testing.T) {
	for i := range 3 {
		for k, change := range []func(g *api.Guard){
			func(g *api.Guard) { g.Posts[i].Id = -1 }, func(g *api.Guard) { g.Posts[i].Id = 10000 }, func(g *api.Guard) { g.Posts[i].Kind = 0 }, func(g *api.Guard) { g.Posts[i].Kind = 4 }, func(g *api.Guard) { g.Posts[i].Spot.Stretch = 2 }, func(g *api.Guard) { g.Posts[i].Spot.Off.Lo = -1 }, func(g *api.Guard) { g.Posts[i].Spot.Off.Hi = 10000 },
			func(g *api.Guard) { g.Posts[i].Delay = -1 }, func(g *api.Guard) { g.Posts[i].Delay = 36001 }, func(g *api.Guard) { g.Posts[i].Pace = 0 }, func(g *api.Guard) { g.Posts[i].Pace = 1001 },
			func(g *api.Guard) { g.Needs[i].Stretch = -1 }, func(g *api.Guard) { g.Needs[i].Stretch = 2 }, func(g *api.Guard) { g.Needs[i].Kind = 0 }, func(g *api.Guard) { g.Needs[i].Kind = 4 }, func(g *api.Guard) { g.Needs[i].Seconds = -1 }, func(g *api.Guard) { g.Needs[i].Seconds = 36001 },
		} {
			x := ask()
			x.g.Needs = append(x.g.Needs, need(0, api.PostAmbulance, 5))
			checked(t, []int{i, k}, x, api.OK)
			change(&x.g)
			checked(t, []int{i, k}, x, api.ErrGuard)
		}
	}
}

// R1, R2: errors are told in the order of the descriptions, and nothing with them.
func TestErrorsInOrder(t *testing.T) {
	kinds := []struct {
		make func(x *asked)
		e    api.Errno
		told []string
	}{
		{func(x *asked) { x.g.Track.Stretches[1].Radius.Lo = 499 }, api.ErrTrack, all()},
		{func(x *asked) { x.g.Radio = -1 }, api.ErrGuard, all()},
		{func(x *asked) { x.g.Tower.Stretch = 2 }, api.ErrGuard, all()},
		{func(x *asked) { x.g.Posts[2].Pace = 0 }, api.ErrGuard, all()},
		{func(x *asked) { x.g.Needs[1].Stretch = 2 }, api.ErrGuard, all()},
		{func(x *asked) { x.post = 3 }, api.ErrArg, []string{"Far", "Time"}},
		{func(x *asked) { x.stretch = -1 }, api.ErrArg, []string{"Far", "Time"}},
		{func(x *asked) { x.need = 2 }, api.ErrArg, []string{"Meets"}},
		{func(x *asked) { x.empty = ints(1, 0) }, api.ErrArg, []string{"Called", "Meets", "Lacks"}},
		{func(x *asked) { x.g.Needs[0].Seconds = 3 }, api.ErrNone, []string{"Weak", "Fewest"}},
	}
	for set := range 1 << len(kinds) {
		x, want := ask(), map[string]api.Errno{}
		x.g.Radio = 7200
		x.g.Needs[1].Kind, x.g.Needs[1].Seconds = api.PostDoctor, 300
		for i := len(kinds) - 1; i >= 0; i-- {
			if set>>i&1 == 0 {
				continue
			}
			kinds[i].make(&x)
			for _, name := range kinds[i].told {
				want[name] = kinds[i].e
			}
		}
		for _, r := range calls(x) {
			if r.e != want[r.name] || r.e != api.OK && r.text != r.zero {
				t.Error(set, r, want[r.name])
			}
		}
	}
}
