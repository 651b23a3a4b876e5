package post_test

import (
	"slices"
	"testing"

	"kreisel/api"
	"kreisel/post"
)

// P9.1: the chapter's examples of ways.
func TestExamplesOfWays(t *testing.T) {
	for i, x := range []struct{ far, time int }{{6200, 82}, {4000, 70}, {4000, 50}} {
		if n, e := post.Far(guard(), i, 1); n != x.far || e != api.OK {
			t.Error(i, n, e)
		}
		if n, e := post.Time(guard(), i, 1); n != x.time || e != api.OK {
			t.Error(i, n, e)
		}
	}
}

// P9.2 to P9.4: the chapter's examples of radios and needs.
func TestExamplesOfNeeds(t *testing.T) {
	for i, x := range []struct{ empty, want []int }{{nil, ints(0, 1, 2)}, {ints(0), nil}, {ints(1), ints(0, 2)}} {
		if l, e := post.Called(guard(), x.empty); !slices.Equal(l, x.want) || e != api.OK {
			t.Error(i, l, e)
		}
	}
	if l, e := post.Meets(guard(), 0, nil); !slices.Equal(l, ints(0, 1, 2)) || e != api.OK {
		t.Error(l, e)
	}
	if l, e := post.Weak(guard()); !slices.Equal(l, ints(0)) || e != api.OK {
		t.Error(l, e)
	}
	if l, e := post.Fewest(guard(radio(6200))); !slices.Equal(l, ints(0, 1)) || e != api.OK {
		t.Error(l, e)
	}
	if l, e := post.Spare(guard(radio(6200))); !slices.Equal(l, ints(2)) || e != api.OK {
		t.Error(l, e)
	}
}

// P9.1 to P9.4: small guards, of which all truths are gone through, and great ones.
func TestGuardsWordForWord(t *testing.T) {
	for _, s := range []size{small(), great()} {
		d := newDice(3)
		sorts := map[string]int{}
		for range 1500 {
			g := d.guard(s)
			empties := [][]int{nil, d.some(len(g.Posts)), d.some(len(g.Posts))}
			for i := range g.Posts {
				empties = append(empties, ints(i))
			}
			want := storyOf(know(g, s.look), empties)
			if got := told(t, g, empties); !equal(got, want) {
				t.Errorf("%+v\n%+v\n%+v", g, got, want)
			}
			for name, is := range map[string]bool{
				"some are not called": len(want.called[0]) < len(g.Posts), "some are called": len(want.called[0]) > 1, "something lacks": want.e != api.OK, "weak": len(want.weak) > 0, "not weak": want.e == api.OK && len(want.weak) == 0 && len(g.Needs) > 0,
				"two are enough": len(want.fewest) == 2, "three are not too many": len(want.fewest) > 2, "none are": want.f != api.OK, "spare": len(want.spare) > 0 && len(g.Needs) > 0, "not spare": want.f == api.OK && len(want.spare) < len(g.Posts),
			} {
				if is {
					sorts[name]++
				}
			}
		}
		for name, n := range sorts {
			if n < 20 {
				t.Error("too few of a sort:", name, n)
			}
		}
		if len(sorts) < 10 {
			t.Error("a sort is missing:", sorts)
		}
	}
}

// P9.1: which end is the farther one, also of the stretch on which the post stands.
func TestFar(t *testing.T) {
	for i, x := range []struct {
		s    api.Spot
		want []int
	}{
		{spot(0, 0, 0), ints(1100, 1600, 3700)}, {spot(0, 999, 999), ints(999, 601, 2701)}, {spot(0, 400, 600), ints(700, 1200, 3300)}, {spot(0, 600, 700), ints(700, 1000, 3100)},
		{spot(1, 0, 0), ints(1100, 500, 2600)}, {spot(1, 250, 250), ints(1350, 250, 2350)}, {spot(1, 240, 260), ints(1360, 260, 2360)}, {spot(1, 499, 499), ints(1599, 499, 2101)}, {spot(1, 0, 499), ints(1599, 500, 2600)},
		{spot(2, 0, 0), ints(1600, 500, 2100)}, {spot(2, 100, 1999), ints(3599, 2499, 2000)}, {spot(2, 1050, 1050), ints(2650, 1550, 1050)}, {spot(2, 1999, 1999), ints(3599, 2499, 1999)},
	} {
		g := api.Guard{
			Track: api.Track{Stretches: []api.Stretch{{Id: 1, Long: span(1000, 1100)}, {Id: 2, Long: span(500, 500)}, {Id: 3, Long: span(2000, 2100)}}},
			Posts: []api.Post{doctor(1, x.s, 3)},
		}
		for stretch, want := range x.want {
			if n, e := post.Far(g, 0, stretch); n != want || e != api.OK {
				t.Error(i, stretch, n, e)
			}
			if n, e := post.Time(g, 0, stretch); n != 3+(want+99)/100 || e != api.OK {
				t.Error(i, stretch, n, e)
			}
		}
	}
}

// P9.1: times are rounded up, before the delay is added.
func TestTime(t *testing.T) {
	for i, x := range []struct{ long, pace, delay, want int }{
		{1, 1, 0, 1}, {1000, 1, 0, 1}, {1001, 1, 0, 2}, {999, 1, 0, 1}, {1, 1000, 0, 1}, {1, 999, 0, 1}, {2, 500, 0, 1}, {2, 501, 0, 2}, {3, 333, 0, 1}, {3, 334, 0, 2}, {30000, 1000, 36000, 66000}, {30000, 1, 7, 37}, {7, 1, 5, 6},
	} {
		g := api.Guard{
			Track: api.Track{Stretches: []api.Stretch{{Long: span(x.long, x.long)}}},
			Posts: []api.Post{{Kind: api.PostBrakeman, Delay: x.delay, Pace: x.pace}},
		}
		if n, e := post.Time(g, 0, 0); n != x.want || e != api.OK {
			t.Error(i, n, e)
		}
	}
}

// P9.2: who hears the tower, or one who is called, is called.
func TestCalled(t *testing.T) {
	for i, x := range []struct {
		radio               int
		places, empty, want []int
	}{
		{100, nil, nil, nil},
		// From the tower, which is at 0.
		{100, ints(100), nil, ints(0)}, {99, ints(100), nil, nil}, {0, ints(0), nil, ints(0)}, {0, ints(1), nil, nil}, {0, ints(0, 0, 1), nil, ints(0, 1)}, {100, ints(100), ints(0), nil},
		// From one to the next one, whatever their order.
		{100, ints(100, 200, 300), nil, ints(0, 1, 2)}, {100, ints(300, 200, 100), nil, ints(0, 1, 2)}, {100, ints(200, 100, 300), nil, ints(0, 1, 2)}, {100, ints(100, 201, 300), nil, ints(0)}, {100, ints(100, 200, 301), nil, ints(0, 1)}, {99, ints(100, 150, 200), nil, nil},
		// Who is empty calls nobody.
		{100, ints(100, 200, 300), ints(0), nil}, {100, ints(100, 200, 300), ints(1), ints(0)}, {100, ints(100, 200, 300), ints(2), ints(0, 1)}, {100, ints(100, 200, 300), ints(0, 1), nil}, {100, ints(100, 200, 300), ints(0, 1, 2), nil}, {100, ints(90, 180, 90), ints(0), ints(1, 2)}, {100, ints(90, 180, 90), ints(0, 2), nil}, {100, ints(300, 200, 100), ints(1), ints(2)},
		// Back and forth, over eight.
		{100, ints(400, 300, 200, 100, 500, 600, 700, 800), nil, ints(0, 1, 2, 3, 4, 5, 6, 7)}, {100, ints(400, 300, 200, 100, 500, 600, 700, 800), ints(0), ints(1, 2, 3)}, {150, ints(400, 300, 250, 100, 500, 600, 700, 800), ints(1), ints(0, 2, 3, 4, 5, 6, 7)},
	} {
		if l, e := post.Called(flat(x.radio, x.places...), x.empty); !slices.Equal(l, x.want) || e != api.OK {
			t.Error(i, l, e)
		}
	}
}

// P9.2: who hears somebody does so in each truth, also if both stand on the same spot.
func TestHearing(t *testing.T) {
	for i, x := range []struct {
		tower, a, b api.Spot
		radio       int
		want        []int
	}{
		{spot(0, 0, 100), spot(0, 0, 0), spot(0, 0, 100), 100, ints(0, 1)}, {spot(0, 0, 100), spot(0, 0, 100), spot(0, 0, 100), 99, nil}, {spot(0, 0, 100), spot(0, 50, 50), spot(0, 0, 100), 99, ints(0, 1)}, {spot(0, 0, 100), spot(0, 50, 50), spot(0, 0, 100), 50, ints(0, 1)}, {spot(0, 0, 100), spot(0, 50, 50), spot(0, 0, 100), 49, nil}, {spot(0, 0, 100), spot(0, 49, 50), spot(0, 0, 100), 50, nil},
		// Several that stand on the same spot hear others, also if not each other.
		{spot(0, 0, 0), spot(0, 0, 30), spot(0, 0, 30), 30, ints(0, 1)}, {spot(0, 10, 10), spot(0, 0, 30), spot(0, 0, 30), 20, ints(0, 1)}, {spot(0, 10, 10), spot(0, 0, 30), spot(0, 0, 30), 19, nil}, {spot(0, 10, 10), spot(0, 0, 30), spot(0, 45, 45), 45, ints(0, 1)}, {spot(0, 10, 10), spot(0, 0, 30), spot(0, 46, 46), 36, ints(0, 1)}, {spot(0, 10, 10), spot(0, 0, 30), spot(0, 46, 46), 35, ints(0)},
		// Over a mark, from the one stretch to the other, and the other way round.
		{spot(0, 900, 900), spot(1, 0, 0), spot(1, 200, 200), 300, ints(0, 1)}, {spot(0, 900, 900), spot(1, 0, 0), spot(1, 201, 201), 201, ints(0, 1)}, {spot(0, 900, 900), spot(1, 0, 0), spot(1, 201, 201), 200, ints(0)}, {spot(0, 900, 900), spot(1, 0, 0), spot(1, 0, 0), 199, nil}, {spot(1, 0, 0), spot(0, 900, 900), spot(0, 700, 700), 200, ints(0, 1)}, {spot(1, 0, 0), spot(0, 900, 900), spot(0, 700, 700), 199, nil}, {spot(1, 0, 0), spot(0, 900, 950), spot(0, 750, 799), 200, ints(0, 1)}, {spot(1, 0, 0), spot(0, 900, 950), spot(0, 749, 799), 200, ints(0)},
	} {
		g := flat(x.radio, 0, 0)
		g.Track.Stretches[0].Long.Hi = 1100
		g.Track.Stretches = append(g.Track.Stretches, api.Stretch{Id: 1, Long: span(700, 700)})
		g.Tower, g.Posts[0].Spot, g.Posts[1].Spot = x.tower, x.a, x.b
		if l, e := post.Called(g, nil); !slices.Equal(l, x.want) || e != api.OK {
			t.Error(i, l, e)
		}
	}
}

// P9.2, P9.3: a need is met by those of its kind who are called and come in time.
func TestMeets(t *testing.T) {
	// From 0 the whole stretch is 1,000 away, from 400 it is 600, from 800 it is 800.
	g := flat(400, 0, 400, 800, 400)
	g.Posts[3].Kind = api.PostAmbulance
	g.Needs = []api.Need{need(0, api.PostDoctor, 800), need(0, api.PostAmbulance, 600), need(0, api.PostBrakeman, api.MaxSecs), need(0, api.PostDoctor, 599), need(0, api.PostDoctor, 1000)}
	for i, x := range []struct {
		empty []int
		meets [][]int
		lacks []int
	}{
		{nil, [][]int{{1, 2}, {3}, nil, nil, {0, 1, 2}}, ints(2, 3)}, {ints(0), [][]int{{1, 2}, {3}, nil, nil, {1, 2}}, ints(2, 3)}, {ints(1), [][]int{{2}, {3}, nil, nil, {0, 2}}, ints(2, 3)}, {ints(3), [][]int{{1, 2}, nil, nil, nil, {0, 1, 2}}, ints(1, 2, 3)},
		// An ambulance calls doctors, too.
		{ints(1, 3), [][]int{nil, nil, nil, nil, {0}}, ints(0, 1, 2, 3)}, {ints(0, 1), [][]int{{2}, {3}, nil, nil, {2}}, ints(2, 3)}, {ints(0, 1, 2), [][]int{nil, {3}, nil, nil, nil}, ints(0, 2, 3, 4)}, {ints(0, 1, 2, 3), [][]int{nil, nil, nil, nil, nil}, ints(0, 1, 2, 3, 4)},
	} {
		for need, want := range x.meets {
			if l, e := post.Meets(g, need, x.empty); !slices.Equal(l, want) || e != api.OK {
				t.Error(i, need, l, e)
			}
		}
		if l, e := post.Lacks(g, x.empty); !slices.Equal(l, x.lacks) || e != api.OK {
			t.Error(i, l, e)
		}
	}
}

// P9.3: who is weak, because of needs or of radios, and that nobody is told if something lacks at once.
func TestWeak(t *testing.T) {
	for i, x := range []struct {
		g       api.Guard
		seconds int
		want    []int
		e       api.Errno
	}{
		{flat(400), 1000, nil, api.ErrNone}, {flat(400, 0), 1000, ints(0), api.OK}, {flat(400, 0), 999, nil, api.ErrNone}, {flat(400, 0, 0), 1000, nil, api.OK}, {flat(400, 500), 1000, nil, api.ErrNone},
		{flat(500, 500, 1), 600, ints(0), api.OK}, {flat(500, 1, 500), 600, ints(1), api.OK}, {flat(500, 500, 500), 600, nil, api.OK},
		{flat(400, 0, 400, 600), 600, ints(1), api.OK}, {flat(400, 200, 400, 600), 600, nil, api.OK}, {flat(400, 200, 600), 600, ints(0, 1), api.OK},
	} {
		x.g.Needs = []api.Need{need(0, api.PostDoctor, x.seconds)}
		if l, e := post.Weak(x.g); !slices.Equal(l, x.want) || e != x.e {
			t.Error(i, l, e)
		}
	}
}

// P9.4: the fewest posts, and of as many the first ones; and who may be taken away.
func TestFewest(t *testing.T) {
	for i, x := range []struct {
		g             api.Guard
		seconds       int
		fewest, spare []int
		e             api.Errno
	}{
		{flat(400), 1000, nil, nil, api.ErrNone}, {flat(400, 0), 1000, nil, nil, api.ErrNone}, {flat(400, 0, 0), 1000, ints(0, 1), nil, api.OK},
		{flat(400, 0, 0, 0), 1000, ints(0, 1), ints(0, 1, 2), api.OK}, {flat(400, 900, 0, 900, 0), 1000, ints(1, 3), ints(0, 2), api.OK}, {flat(400, 0, 1, 2, 3, 4, 5, 6, 7), 1000, ints(0, 1), ints(0, 1, 2, 3, 4, 5, 6, 7), api.OK},
		// Two in the middle, each of whom has to hear the tower over another one, so that two others are needed, too.
		{flat(400, 200, 600, 600, 300), 600, ints(0, 1, 2, 3), nil, api.OK}, {flat(400, 200, 600, 600, 300, 250), 600, ints(0, 1, 2, 3), ints(0, 3, 4), api.OK}, {flat(400, 600, 600, 200), 600, nil, nil, api.ErrNone},
		// One in the middle that is called at once needs no other one to be heard.
		{flat(400, 200, 300, 400, 600), 600, ints(0, 2, 3), ints(0, 1), api.OK}, {flat(400, 600, 200, 400, 300), 600, ints(0, 1, 2), ints(1, 3), api.OK}, {flat(400, 600, 200, 400, 400), 600, ints(2, 3), ints(0, 1, 2, 3), api.OK},
		{flat(400, 0, 0, 0), 999, nil, nil, api.ErrNone},
	} {
		x.g.Needs = []api.Need{need(0, api.PostDoctor, x.seconds)}
		if l, e := post.Fewest(x.g); !slices.Equal(l, x.fewest) || e != x.e {
			t.Error(i, l, e)
		}
		if l, e := post.Spare(x.g); !slices.Equal(l, x.spare) || e != api.OK {
			t.Error(i, l, e)
		}
	}
}

// P9.4: of as many posts those come first whose first index that differs is less, also if others have lesser ones behind it.
func TestFewestOfAsMany(t *testing.T) {
	// One is called by the tower itself; one over each of two ambulances, to both sides of it.
	g := flat(100, 500, 400, 600, 700, 300)
	g.Tower = spot(0, 500, 500)
	g.Posts[1].Kind, g.Posts[2].Kind = api.PostAmbulance, api.PostAmbulance
	g.Needs = []api.Need{need(0, api.PostDoctor, 700)}
	for _, list := range [][]int{ints(0, 2, 3), ints(0, 1, 4)} {
		if !isStrong(taken(g, list)) {
			t.Error(list)
		}
	}
	if l, e := post.Fewest(g); !slices.Equal(l, ints(0, 1, 4)) || e != api.OK {
		t.Error(l, e)
	}
}

// P9.8: with no needs no posts are needed, and each one is spare, also if it is not called.
func TestNoNeeds(t *testing.T) {
	g := flat(5)
	for i := range api.MaxPosts + 1 {
		l, e := post.Fewest(g)
		m, f := post.Spare(g)
		n, h := post.Weak(g)
		if len(l)+len(n) != 0 || !slices.Equal(m, lists(0, i, i)[0]) || e != api.OK || f != api.OK || h != api.OK {
			t.Error(i, l, e, m, f, n, h)
		}
		g.Posts = append(g.Posts, doctor(10*i, spot(0, 5*i+6, 5*i+6), 0))
	}
}
