package scale

import (
	"iter"

	"kreisel/api"
	"kreisel/span"
)

// tunes yields the truths of a valid scale, gain by gain, each one with all offsets that it may have. A scale shows what a weight comes to by its gain, in whole grams, and the offset, both of them together cut off to a step: what is below a gram never makes a difference, as all steps and offsets are whole grams.
func tunes(s api.Scale) iter.Seq[api.Tune] {
	return func(yield func(api.Tune) bool) {
	gains:
		for gain := s.Gain.Lo; gain <= s.Gain.Hi; gain++ {
			off := s.Off
			for _, t := range s.Trials {
				off = span.Both(off, offsets(s, gain, t))
				if off.Lo > off.Hi {
					continue gains
				}
			}
			if !yield(api.Tune{Gain: gain, Off: off}) {
				return
			}
		}
	}
}

// grams returns what a weight comes to by a gain.
func grams(gain, weight int) int { return weight * (1000 + gain) / 1000 }

// offsets returns all offsets with which a scale with a gain shows what it did in a trial.
func offsets(s api.Scale, gain int, t api.Trial) api.Span {
	least := t.Shown - grams(gain, t.Weight)
	return api.Span{Lo: least, Hi: least + s.Step - 1}
}

// shows returns what a scale with a gain and an offset shows for a weight.
func shows(s api.Scale, gain, off, weight int) int {
	sum := grams(gain, weight) + off
	above := sum % s.Step
	if above < 0 {
		above += s.Step
	}
	return sum - above
}

// weights returns all weights for which a scale with a gain and an offset shows a number; its Lo is above its Hi if there is none.
func weights(s api.Scale, gain, off, shown int) api.Span {
	all := api.Span{Lo: lightestWith(gain, shown-off), Hi: lightestWith(gain, shown-off+s.Step) - 1}
	return span.Both(all, span.UpTo(api.MaxWeight))
}

// lightestWith returns the least weight that comes to some grams, or to more, by a gain; it is not above 0 if all weights do.
func lightestWith(gain, least int) int { return (least*1000 + 1000 + gain - 1) / (1000 + gain) }
