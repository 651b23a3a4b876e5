package scale

import (
	"kreisel/api"
	"kreisel/span"
)

// right returns how many scales are valid, and have an Id above that of the one before, up to the first one that does not.
func right(list []api.Scale) int {
	for i, s := range list {
		if i > 0 && list[i-1].Id >= s.Id || !built(s) || !tried(s) {
			return i
		}
	}
	return len(list)
}

// built tells whether all of a scale is valid but its trials.
func built(s api.Scale) bool {
	return span.Valid(
		span.Limit{Told: span.One(s.Id), In: span.UpTo(api.MaxId)},
		span.Limit{Told: span.One(s.Step), In: api.Span{Lo: 1, Hi: api.MaxStep}},
		span.Limit{Told: s.Gain, In: span.Around(api.MaxGain)},
		span.Limit{Told: s.Off, In: span.Around(api.MaxOff)},
	)
}

// tried tells whether the trials of a scale are valid, if the rest of it is.
func tried(s api.Scale) bool {
	if len(s.Trials) > api.MaxTrials {
		return false
	}
	for _, t := range s.Trials {
		if !span.Within(span.UpTo(api.MaxWeight), t.Weight) || !showable(s, t.Shown) {
			return false
		}
	}
	return true
}

// showable tells whether a valid scale may have shown a number.
func showable(s api.Scale, shown int) bool {
	return shown%s.Step == 0 && span.Within(span.Around(2*api.MaxWeight), shown)
}

// loaded tells whether loads are valid on the scales of a valid bay.
func loaded(b api.Bay, loads []api.Load) bool {
	if len(loads) > api.MaxLoads {
		return false
	}
	scales := map[int]api.Scale{}
	for _, s := range b.Scales {
		scales[s.Id] = s
	}
	for _, l := range loads {
		if s, ok := scales[l.Scale]; !ok || !showable(s, l.Shown) {
			return false
		}
	}
	return true
}

// inspected tells whether all of gear is valid but its loads.
func inspected(g api.Gear) bool {
	if len(g.Runners) > api.MaxRunners || len(g.Strokes) > api.MaxStrokes {
		return false
	}
	tempers, hards := span.Around(api.MaxTemper), span.UpTo(api.MaxHard)
	return span.Within(span.UpTo(api.MaxWeight), g.Added) &&
		span.Within(tempers, g.Base) && span.Within(tempers, g.Runners...) &&
		span.Within(span.UpTo(api.MaxTemper), g.Jitter) &&
		span.Within(hards, g.Spread) && span.Within(hards, g.Strokes...)
}

// checkNorm returns Check's error, and then ErrNorm unless a norm is valid.
func checkNorm(b api.Bay, g api.Gear, n api.Norm) api.Errno {
	if e := Check(b, g); e != api.OK {
		return e
	}
	if !span.Valid(
		span.Limit{Told: n.Total, In: span.UpTo(10 * api.MaxWeight)},
		span.Limit{Told: n.Hard, In: span.UpTo(api.MaxHard)},
		span.Limit{Told: span.One(n.Added), In: span.UpTo(api.MaxWeight)},
		span.Limit{Told: span.One(n.Warm), In: span.Around(api.MaxTemper)},
	) {
		return api.ErrNorm
	}
	return api.OK
}
