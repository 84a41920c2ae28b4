package walk

import "pairworks/api"

// when is the least and the greatest minute, of all truths, at which something is.
type when struct{ least, greatest int }

// exactly returns when something is that is at this minute in each truth.
func exactly(minute int) when { return when{minute, minute} }

// after returns when something ends that begins then, and takes so long.
func (w when) after(takes api.Span) when { return when{w.least + takes.Lo, w.greatest + takes.Hi} }

// waits returns when one begins who comes then, and waits until there is light.
func (w when) waits(light api.Span) when {
	return when{max(w.least, light.Lo), max(w.greatest, light.Lo)}
}

// inTime returns whether one who begins then does so before the light ends: in each truth, in some, or in none.
func (w when) inTime(light api.Span) int {
	switch {
	case w.greatest <= light.Hi:
		return api.WalkAlways
	case w.least <= light.Hi:
		return api.WalkPerhaps
	}
	return api.WalkNever
}

func (w when) span() api.Span { return api.Span{Lo: w.least, Hi: w.greatest} }
