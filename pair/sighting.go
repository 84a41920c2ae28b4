package pair

import "pairworks/api"

// witness is what a thing says that stands still.
//
// Near is at least MaxShift, so that the powers of a distance and of the next one meet, and what a thing says of the power is one span.
type witness interface {
	// powers returns the powers with which the thing has one of these shifts.
	powers(shifts api.Span) api.Span
	// distances returns how far away the thing is that has one of these shifts with one of these powers; there are such.
	distances(power, shifts api.Span) api.Span
}

// landmark is a thing whose distance is known.
type landmark int

func (m landmark) powers(shifts api.Span) api.Span {
	return span(shifts.Lo*int(m), (shifts.Hi+1)*int(m)-1)
}

func (m landmark) distances(power, shifts api.Span) api.Span { return span(int(m), int(m)) }

// stranger is a thing whose distance is not known.
type stranger struct{ near, far int }

func (o stranger) powers(shifts api.Span) api.Span {
	return span(shifts.Lo*o.near, (shifts.Hi+1)*o.far-1)
}

func (o stranger) distances(power, shifts api.Span) api.Span {
	// The least distance is the first one at which the least power gives no more than the greatest shift.
	least := power.Lo/(shifts.Hi+1) + 1
	greatest := o.far
	if shifts.Lo > 0 {
		greatest = power.Hi / shifts.Lo
	}
	return overlap(span(o.near, o.far), span(least, greatest))
}

// sighting is what is seen of a thing.
type sighting struct {
	witness
	shift   api.Span // all that its places allow
	slanted bool     // whether its rows differ by more than the tilt
}

// steady returns the shifts that the thing has while it stands still.
func (s sighting) steady() api.Span { return overlap(s.shift, span(0, api.MaxShift)) }

// steadyPower returns the powers with which the thing stands still.
func (s sighting) steadyPower() api.Span {
	if s.slanted {
		return nothing()
	}
	return s.powers(s.steady())
}

// stood is why a thing moved that can stand still.
const stood = 0

// reason is why a thing moved, and whether this is so with these powers.
type reason struct {
	code  int
	holds func(s sighting, power api.Span) bool
}

// reasons returns the reasons, in the order in which they are named.
func reasons() []reason {
	return []reason{
		{api.MovedRows, sighting.isSlanted},
		{api.MovedBehind, sighting.isBehind},
		{api.MovedNear, sighting.isTooNear},
		{api.MovedFar, sighting.isTooFar},
	}
}

// why returns the first reason why the thing moved, or stood: no reason holds just if it stands still with one of these powers.
func (s sighting) why(power api.Span) int {
	for _, r := range reasons() {
		if r.holds(s, power) {
			return r.code
		}
	}
	return stood
}

func (s sighting) isSlanted(power api.Span) bool { return s.slanted }

func (s sighting) isBehind(power api.Span) bool { return s.shift.Hi < 0 }

func (s sighting) isTooNear(power api.Span) bool {
	return s.shift.Lo > api.MaxShift || s.powers(s.steady()).Lo > power.Hi
}

func (s sighting) isTooFar(power api.Span) bool { return s.powers(s.steady()).Hi < power.Lo }
