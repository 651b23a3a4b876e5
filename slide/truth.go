package slide

import (
	"iter"
	"maps"
	"slices"

	"kreisel/api"
	"kreisel/span"
)

// A slider is a valid sled at work, on the stretches of a valid track.
type slider struct {
	api.Sled
	stretches []api.Stretch
}

// A truth is one of the two truths at the ends of what may be so: which end of what a sled gets higher by (Start, Weight, Fall, Steer) is true in it, and which one of what keeps it low (Drag, Rub, Long, Radius).
type truth struct {
	slider
	more, less func(s api.Span) int
}

// fastest returns the truth in which all heads and heights are the greatest. Of a head that is greater by one the air takes at most one more, or it takes all of either head, so that a greater head is never less at the next mark; and what else is told makes heads and heights greater, or less, on all stretches alike.
func (s slider) fastest() truth { return truth{s, span.High, span.Low} }

// slowest returns the truth in which all heads and heights are the least.
func (s slider) slowest() truth { return truth{s, span.Low, span.High} }

// A force is what a stretch gives to a head, and what takes of it then; no more is taken than there is.
type force struct {
	gives func(t truth, stretch int) int
	takes func(t truth, stretch, head int) int
}

// forces returns all that changes a head in a stretch, in the order in which it does.
func forces() [2]force {
	return [...]force{
		{func(truth, int) int { return 0 }, truth.air},
		{truth.fall, truth.ice},
	}
}

func (t truth) fall(stretch int) int { return t.more(t.stretches[stretch].Fall) }

func (t truth) long(stretch int) int { return t.less(t.stretches[stretch].Long) }

// air returns what the air takes of a head.
func (t truth) air(stretch, head int) int {
	return head * t.less(t.Drag) * t.long(stretch) / (100 * t.more(t.Weight))
}

// ice returns what the ice takes of a head; it takes as much of each one.
func (t truth) ice(stretch, _ int) int { return t.less(t.Rub) * t.long(stretch) / 100 }

// next returns the head at the end of a stretch, from that at its beginning.
func (t truth) next(stretch, head int) int {
	for _, f := range forces() {
		head = max(0, head+f.gives(t, stretch)-f.takes(t, stretch, head))
	}
	return head
}

// heads yields the head at each mark.
func (t truth) heads() iter.Seq2[int, int] {
	return func(yield func(int, int) bool) {
		head := t.more(t.Start)
		for i := range len(t.stretches) {
			if !yield(i, head) {
				return
			}
			head = t.next(i, head)
		}
		yield(len(t.stretches), head)
	}
}

// within returns the head in each stretch.
func (t truth) within() []int {
	list := make([]int, len(t.stretches))
	before := 0
	for mark, head := range t.heads() {
		if mark > 0 {
			list[mark-1] = max(before, head)
		}
		before = head
	}
	return list
}

// height returns the height in a curve at a head.
func (t truth) height(stretch, head int) int {
	return api.BankWidth*head/(10*t.less(t.stretches[stretch].Radius)) + t.more(t.Steer)
}

// throws tells whether a curve throws the sled at a head.
func (t truth) throws(stretch, head int) bool {
	return t.height(stretch, head) > t.stretches[stretch].Wall
}

// throwing returns all curves that throw the sled, in increasing order.
func (t truth) throwing() []int {
	curves := map[int]int{} // the heads in them
	for i, head := range t.within() {
		curves[i] = head
	}
	for i := range len(t.stretches) {
		if straight(t.stretches[i]) || !t.throws(i, curves[i]) {
			delete(curves, i)
		}
	}
	return slices.Sorted(maps.Keys(curves))
}

// safe tells whether no curve throws the sled in any truth.
func (s slider) safe() bool { return len(s.fastest().throwing()) == 0 }

// straight tells whether a stretch is no curve: each curve has a radius.
func straight(s api.Stretch) bool { return s.Radius == api.Span{} }
