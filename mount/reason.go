package mount

import "pairworks/api"

// trimmed is a card that is looked at with a trimming.
type trimmed struct {
	looked
	cuts api.Cuts
}

func (l looked) with(cuts api.Cuts) trimmed { return trimmed{l, cuts} }

func (t trimmed) window() int { return t.Step * (t.cuts.LeftLeft - t.cuts.RightLeft) }

// distance returns the distance on the card of a thing with this shift.
func (t trimmed) distance(shift int) int {
	return 2*t.Half - t.Step*(t.cuts.LeftRight+t.cuts.RightLeft) - shift
}

// kept returns what is left of a print that is cut so often at both edges; it is empty if all of it is cut off.
func (t trimmed) kept(left, right int) api.Span {
	return span(-t.Half+t.Step*left, t.Half-t.Step*right)
}

func (t trimmed) leftPrint() api.Span { return t.kept(t.cuts.LeftLeft, t.cuts.LeftRight) }

func (t trimmed) rightPrint() api.Span { return t.kept(t.cuts.RightLeft, t.cuts.RightRight) }

// distances returns the distances on the card that hurt no eyes.
func (t trimmed) distances() api.Span { return span(t.Eyes.Hi-t.Squeeze, t.Eyes.Lo+t.Prism) }

// shifts returns the shifts of what is neither too far before the window nor too far behind it.
func (t trimmed) shifts() api.Span { return span(t.window()-t.Deep, t.window()+t.Front) }

// reason is a reason why things hurt.
type reason interface {
	// hurts returns whether a thing hurts with a trimming, for some number of its shift and some eyes.
	hurts(t trimmed, x thing) bool
}

type (
	tooNear   struct{}
	tooFar    struct{}
	inFront   struct{}
	tooDeep   struct{}
	cutAtEdge struct{}
)

func (tooNear) hurts(t trimmed, x thing) bool { return t.distance(x.shift.Hi) < t.distances().Lo }

func (tooFar) hurts(t trimmed, x thing) bool { return t.distance(x.shift.Lo) > t.distances().Hi }

func (inFront) hurts(t trimmed, x thing) bool { return x.shift.Hi > t.shifts().Hi }

func (tooDeep) hurts(t trimmed, x thing) bool { return x.shift.Lo < t.shifts().Lo }

func (cutAtEdge) hurts(t trimmed, x thing) bool {
	left, right := t.leftPrint(), t.rightPrint()
	return greatest(left.Lo-x.left.Lo, x.left.Hi-left.Hi, right.Lo-x.right.Lo, x.right.Hi-right.Hi) > 0
}

// reasons returns all reasons; the number of each is one more than its place.
func reasons() [5]reason {
	return [5]reason{
		api.HurtNear - 1:   tooNear{},
		api.HurtFar - 1:    tooFar{},
		api.HurtFront - 1:  inFront{},
		api.HurtBehind - 1: tooDeep{},
		api.HurtCut - 1:    cutAtEdge{},
	}
}

// hurt is a thing that hurts, and why.
type hurt struct{ thing, why int }

// unhurt is that nothing hurts.
func unhurt() hurt { return hurt{} }

// firstHurt returns the first thing that hurts, and its first reason.
func (t trimmed) firstHurt() hurt {
	for k, x := range t.things() {
		for place, r := range reasons() {
			if r.hurts(t, x) {
				return hurt{thing: k, why: place + 1}
			}
		}
	}
	return unhurt()
}

// tellEyes says of each thing that is seen between which bounds eyes are that it does not hurt.
func (t trimmed) tellEyes(say func(lo, hi int)) {
	for _, x := range t.things() {
		say(t.distance(x.shift.Lo)-t.Prism, t.distance(x.shift.Hi)+t.Squeeze)
	}
}

// tellRoom says between which bounds shifts are that do not hurt.
func (t trimmed) tellRoom(say func(lo, hi int)) {
	distances, shifts := t.distances(), t.shifts()
	// A distance and a shift make one sum together, so that each follows from the other one in the same way.
	say(t.distance(distances.Hi), t.distance(distances.Lo))
	say(shifts.Lo, shifts.Hi)
}

// room returns which shifts do not hurt.
func (t trimmed) room() (api.Span, api.Errno) {
	return narrowed(span(0, api.MaxShift), t.tellRoom)
}
