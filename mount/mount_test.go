package mount_test

import (
	"math"
	"testing"

	"pairworks/api"
	"pairworks/mount"
)

func span(lo, hi int) api.Span { return api.Span{Lo: lo, Hi: hi} }

// at returns a thing with these X of its places, and flat rows.
func at(left, right api.Span) api.Thing {
	return api.Thing{Left: api.Place{X: left}, Right: api.Place{X: right}}
}

// shifted returns a thing in the middle of the right picture, with just this shift.
func shifted(lo, hi int) api.Thing { return at(span(lo, hi), span(0, 0)) }

// mark returns a landmark that is so far away.
func mark(far int, t api.Thing) api.Thing {
	t.Far = far
	return t
}

func cut(leftLeft, leftRight, rightLeft, rightRight int) api.Cuts {
	return api.Cuts{LeftLeft: leftLeft, LeftRight: leftRight, RightLeft: rightLeft, RightRight: rightRight}
}

// change changes a card.
type change func(c *api.Card)

func changed(c api.Card, changes ...change) api.Card {
	for _, f := range changes {
		f(&c)
	}
	return c
}

// sample returns the card of the chapter's examples, changed.
func sample(changes ...change) api.Card {
	return changed(api.Card{
		Pair: api.Pair{Focal: span(9000, 9000), Base: span(65, 66), Tilt: 5, Near: 2000, Far: 100000, Things: []api.Thing{
			{Left: api.Place{X: span(100, 101), Y: span(0, 1)}, Right: api.Place{X: span(-96, -95), Y: span(0, 2)}, Far: 3000},
			{Left: api.Place{X: span(50, 50), Y: span(10, 12)}, Right: api.Place{X: span(-10, -8), Y: span(14, 15)}},
			{Left: api.Place{X: span(0, 2)}, Right: api.Place{X: span(5, 6)}},
			{Left: api.Place{X: span(400, 400)}},
			{Left: api.Place{X: span(10, 10), Y: span(0, 1)}, Right: api.Place{Y: span(10, 12)}},
			{Left: api.Place{X: span(0, 3)}},
		}},
		Half: 3200, Step: 50, Cuts: 20, Eyes: span(6000, 6500), Prism: 300, Squeeze: 900, Front: 100, Deep: 200,
	}, changes...)
}

// plain returns a card with shifts from 1 to 50, and little that does not hurt: untrimmed, just the shift 20 does not.
func plain(things ...api.Thing) api.Card {
	return api.Card{
		Pair: api.Pair{Focal: span(50000, 50000), Base: span(2, 2), Near: 2000, Far: 100000, Things: things},
		Half: 100, Step: 10, Cuts: 3, Eyes: span(180, 180), Front: 20, Deep: 0,
	}
}

func things(list ...api.Thing) change { return func(c *api.Card) { c.Pair.Things = list } }
func half(n int) change               { return func(c *api.Card) { c.Half = n } }
func step(n int) change               { return func(c *api.Card) { c.Step = n } }
func cuts(n int) change               { return func(c *api.Card) { c.Cuts = n } }
func eyes(lo, hi int) change          { return func(c *api.Card) { c.Eyes = span(lo, hi) } }
func turns(prism, squeeze int) change {
	return func(c *api.Card) { c.Prism, c.Squeeze = prism, squeeze }
}
func window(front, deep int) change { return func(c *api.Card) { c.Front, c.Deep = front, deep } }

// untrue makes the pair one without a truth: its landmark is behind all that is far away.
func untrue(c *api.Card) {
	c.Pair.Things = []api.Thing{mark(3000, shifted(-2, -1)), shifted(30, 30)}
}

// outcome is all results of a call.
type outcome struct {
	numbers [3]int
	cuts    api.Cuts
	span    api.Span
	e       api.Errno
}

func seen(c api.Card) outcome {
	n, e := mount.Seen(c)
	return outcome{numbers: [3]int{n}, e: e}
}

func hurts(c api.Card, t api.Cuts) outcome {
	thing, why, e := mount.Hurts(c, t)
	return outcome{numbers: [3]int{thing, why}, e: e}
}

func trim(c api.Card) outcome {
	t, e := mount.Trim(c)
	return outcome{cuts: t, e: e}
}

func why(c api.Card) outcome {
	n, a, b, e := mount.Why(c)
	return outcome{numbers: [3]int{n, a, b}, e: e}
}

func eyesOf(c api.Card, t api.Cuts) outcome {
	s, e := mount.Eyes(c, t)
	return outcome{span: s, e: e}
}

func room(c api.Card, t api.Cuts) outcome {
	s, e := mount.Room(c, t)
	return outcome{span: s, e: e}
}

func depths(c api.Card, t api.Cuts) outcome {
	s, e := mount.Depths(c, t)
	return outcome{span: s, e: e}
}

// everything calls each function, and returns what it does.
func everything(c api.Card, t api.Cuts) map[string]outcome {
	return map[string]outcome{
		"Seen": seen(c), "Hurts": hurts(c, t), "Trim": trim(c), "Why": why(c),
		"Eyes": eyesOf(c, t), "Room": room(c, t), "Depths": depths(c, t),
	}
}

// withTrimming is the functions that take a trimming.
func withTrimming(name string) bool {
	return name == "Hurts" || name == "Eyes" || name == "Room" || name == "Depths"
}

func fine() outcome { return outcome{} }

func number(n int) outcome { return outcome{numbers: [3]int{n}} }

func refused(numbers ...int) outcome {
	o := failed(api.ErrRefuse)
	copy(o.numbers[:], numbers)
	return o
}

func trimmed(t api.Cuts) outcome { return outcome{cuts: t} }

func is(lo, hi int) outcome { return outcome{span: span(lo, hi)} }

func failed(e api.Errno) outcome { return outcome{e: e} }

func expect(t *testing.T, what string, got, want outcome) {
	t.Helper()
	if got != want {
		t.Errorf("%s: %v, want %v", what, got, want)
	}
}

func TestExamples(t *testing.T) {
	c := sample()
	expect(t, "Seen", seen(c), number(3))
	expect(t, "Hurts of 0 0 0 0", hurts(c, cut(0, 0, 0, 0)), refused(0, api.HurtFront))
	expect(t, "Hurts of 2 0 0 2", hurts(c, cut(2, 0, 0, 2)), refused(1, api.HurtFar))
	expect(t, "Hurts of 2 1 0 3", hurts(c, cut(2, 1, 0, 3)), fine())
	expect(t, "Trim", trim(c), trimmed(cut(2, 1, 0, 3)))
	expect(t, "Trim with Cuts 2", trim(sample(cuts(2))), refused())
	expect(t, "Why", why(c), fine())
	expect(t, "Why with Cuts 2", why(sample(cuts(2))), refused(api.ApartCuts, 0, 0))
	expect(t, "Why with Front 50, Deep 80", why(sample(window(50, 80))), refused(api.ApartWindow, 0, 1))
	expect(t, "Why with Prism 0, Squeeze 600", why(sample(turns(0, 600))), refused(api.ApartEyes, 0, 1))
	expect(t, "Eyes of 2 1 0 3", eyesOf(c, cut(2, 1, 0, 3)), is(5992, 7053))
	expect(t, "Room of 2 1 0 3", room(c, cut(2, 1, 0, 3)), is(50, 200))
	expect(t, "Depths of 2 1 0 3", depths(c, cut(2, 1, 0, 3)), is(2956, 11700))
}

func TestSeen(t *testing.T) {
	near, far, still := shifted(51, 51), shifted(0, 0), shifted(20, 20)
	slanted := still
	slanted.Left.Y = span(1, 1)
	for _, x := range []struct {
		what string
		c    api.Card
		want outcome
	}{
		{"no thing", plain(), number(0)},
		{"what stands still", plain(still, shifted(1, 1), shifted(50, 50)), number(7)},
		{"what is too near", plain(near, still), number(2)},
		{"what is too far away", plain(still, far), number(1)},
		{"what is behind", plain(shifted(-3, -1), still), number(2)},
		{"what is slanted", plain(slanted, still), number(2)},
		{"what can stand still, and can have moved", plain(shifted(-9, 1), shifted(50, 99)), number(3)},
		{"a landmark, and what does not go with it", plain(mark(100000, shifted(1, 1)), shifted(51, 51)), number(1)},
		{"what hurts", plain(at(span(4000, 4000), span(3960, 3960))), number(1)},
		{"all things", plain(still, still, still, still, still, still, still, still, still, still, still, still), number(1<<12 - 1)},
	} {
		expect(t, x.what, seen(x.c), x.want)
	}
}

// Each reason begins just behind its bound.
func TestReasons(t *testing.T) {
	uncut, middle := cut(0, 0, 0, 0), shifted(20, 20)
	easy := func(list ...api.Thing) api.Card {
		return changed(plain(list...), turns(300, 300), window(300, 300))
	}
	for _, x := range []struct {
		what string
		c    api.Card
		cuts api.Cuts
		want outcome
	}{
		{"nothing is seen", plain(shifted(51, 51)), uncut, fine()},
		{"nothing hurts", plain(middle), uncut, fine()},
		{"eyes that are wider", changed(plain(middle), eyes(181, 181)), uncut, refused(0, api.HurtNear)},
		{"some eyes that are wider", changed(plain(middle), eyes(180, 181)), uncut, refused(0, api.HurtNear)},
		{"eyes that turn in", changed(plain(middle), eyes(180, 187), turns(0, 7)), uncut, fine()},
		{"eyes that turn in too little", changed(plain(middle), eyes(180, 187), turns(9, 6)), uncut, refused(0, api.HurtNear)},
		{"eyes that are narrower", changed(plain(middle), eyes(179, 179)), uncut, refused(0, api.HurtFar)},
		{"some eyes that are narrower", changed(plain(middle), eyes(179, 180)), uncut, refused(0, api.HurtFar)},
		{"eyes that turn out", changed(plain(middle), eyes(173, 180), turns(7, 0)), uncut, fine()},
		{"eyes that turn out too little", changed(plain(middle), eyes(173, 180), turns(6, 9)), uncut, refused(0, api.HurtFar)},
		{"the greatest shift", changed(plain(shifted(20, 21)), window(30, 0)), uncut, refused(0, api.HurtNear)},
		{"the least shift", changed(plain(shifted(19, 20)), window(30, 0)), uncut, refused(0, api.HurtFar)},
		{"before the window", changed(plain(middle), window(19, 0)), uncut, refused(0, api.HurtFront)},
		{"some of it before the window", changed(easy(shifted(20, 21)), window(20, 0)), uncut, refused(0, api.HurtFront)},
		{"just at the window", changed(plain(middle), window(0, 0), step(20), cuts(1), turns(0, 0)), cut(1, 0, 0, 1), fine()},
		{"behind the window", changed(plain(middle), window(0, 9)), cut(3, 0, 0, 3), refused(0, api.HurtBehind)},
		{"not far behind the window", changed(plain(middle), window(0, 10)), cut(3, 0, 0, 3), fine()},
		{"some of it behind the window", changed(easy(shifted(19, 20)), window(0, 10)), cut(3, 0, 0, 3), refused(0, api.HurtBehind)},
		{"a window that comes nearer", changed(plain(middle), window(0, 10), turns(90, 90)), cut(3, 0, 1, 2), fine()},
		{"a window that goes away", changed(easy(middle), window(29, 0)), cut(1, 1, 2, 0), refused(0, api.HurtFront)},
		{"a window that goes away a little", changed(easy(middle), window(30, 0)), cut(1, 1, 2, 0), fine()},
		{"a shift below 0", changed(easy(shifted(-1, 20)), window(20, 0)), uncut, refused(0, api.HurtBehind)},
		{"the left print's right edge", easy(at(span(99, 100), span(50, 79))), uncut, fine()},
		{"beyond the left print's right edge", easy(at(span(99, 101), span(50, 79))), uncut, refused(0, api.HurtCut)},
		{"the left print's right edge, cut", easy(at(span(90, 90), span(70, 70))), cut(0, 1, 1, 0), fine()},
		{"the left print's right edge, cut off", easy(at(span(90, 91), span(70, 70))), cut(0, 1, 1, 0), refused(0, api.HurtCut)},
		{"the left print's left edge", easy(at(span(-80, -80), span(-100, -99))), cut(2, 0, 0, 2), fine()},
		{"the left print's left edge, cut off", easy(at(span(-81, -80), span(-100, -99))), cut(2, 0, 0, 2), refused(0, api.HurtCut)},
		{"the right print's left edge", easy(at(span(-60, -60), span(-80, -80))), cut(0, 2, 2, 0), fine()},
		{"the right print's left edge, cut off", easy(at(span(-60, -60), span(-81, -80))), cut(0, 2, 2, 0), refused(0, api.HurtCut)},
		{"the right print's right edge", easy(at(span(90, 90), span(70, 70))), cut(3, 0, 0, 3), fine()},
		{"the right print's right edge, cut off", easy(at(span(90, 90), span(70, 71))), cut(3, 0, 0, 3), refused(0, api.HurtCut)},
		{"all of a print but its middle", changed(easy(at(span(0, 0), span(-1, -1))), half(1), step(1), cuts(2)), cut(1, 1, 0, 2), fine()},
		{"all of a print", changed(easy(at(span(0, 0), span(-1, -1))), half(1), step(1), cuts(2)), cut(2, 1, 1, 2), refused(0, api.HurtCut)},
		{"all of both prints, and nothing is seen", changed(easy(), half(1), step(1), cuts(2)), cut(2, 2, 2, 2), fine()},
		{"what moved hurts nobody", plain(shifted(99, 99), middle), uncut, fine()},
		{"the first thing", plain(middle, shifted(99, 99), shifted(19, 19), shifted(21, 21)), uncut, refused(2, api.HurtFar)},
		{"the first reason", plain(middle, at(span(3021, 3022), span(2999, 3000))), uncut, refused(1, api.HurtNear)},
		{"near and far", plain(shifted(19, 21)), uncut, refused(0, api.HurtNear)},
		{"far and behind", plain(shifted(9, 9)), cut(1, 0, 0, 1), refused(0, api.HurtFar)},
		{"before and behind", changed(easy(shifted(9, 11)), window(0, 0)), cut(1, 0, 0, 1), refused(0, api.HurtFront)},
		{"behind and cut", changed(easy(at(span(509, 509), span(500, 500))), window(0, 0)), cut(1, 0, 0, 1), refused(0, api.HurtBehind)},
	} {
		expect(t, x.what, hurts(x.c, x.cuts), x.want)
	}
}

func TestTrim(t *testing.T) {
	for _, x := range []struct {
		what string
		c    api.Card
		want outcome
	}{
		{"nothing is seen", plain(), trimmed(cut(0, 0, 0, 0))},
		{"no step is needed", plain(shifted(20, 20)), trimmed(cut(0, 0, 0, 0))},
		{"no edge can be cut", changed(plain(shifted(21, 21)), cuts(0)), refused()},
		{"steps that are too great", changed(plain(shifted(30, 30)), step(11)), refused()},
		{"what comes nearer", changed(plain(shifted(30, 30)), window(20, 0), eyes(170, 170)), trimmed(cut(1, 0, 0, 1))},
		{"fewer steps at inner edges", changed(plain(shifted(20, 20)), eyes(160, 160), window(50, 50)), trimmed(cut(0, 1, 1, 0))},
		{"the least LeftLeft", changed(plain(shifted(20, 20)), eyes(160, 160), window(20, 0)), trimmed(cut(0, 2, 0, 2))},
		{"an odd number of steps at inner edges", changed(plain(shifted(20, 20)), eyes(150, 160), turns(0, 10), window(50, 50)), trimmed(cut(0, 2, 1, 1))},
		{"the least RightLeft", changed(plain(shifted(20, 20)), eyes(165, 165), turns(5, 5), window(50, 50)), trimmed(cut(0, 1, 0, 1))},
		{"fewer steps, and more at the left edge", changed(plain(shifted(50, 50)), eyes(150, 150), window(20, 0)), trimmed(cut(3, 0, 0, 3))},
		{"two steps of one edge are too many", changed(plain(shifted(20, 20)), eyes(160, 160), window(50, 50), cuts(1)), trimmed(cut(0, 1, 1, 0))},
		{"an edge that is needed", changed(plain(at(span(100, 100), span(80, 80))), eyes(170, 170), window(50, 50)), trimmed(cut(1, 0, 1, 0))},
		{"two edges that are needed", changed(plain(at(span(100, 100), span(80, 80)), at(span(-80, -80), span(-100, -100))), eyes(170, 170), window(50, 50)), refused()},
		{"another edge that is needed", changed(plain(at(span(-80, -80), span(-100, -100))), eyes(170, 170), window(50, 50)), trimmed(cut(0, 1, 0, 1))},
		{"inner edges as often as they can be cut", changed(plain(shifted(20, 20)), eyes(120, 120), turns(0, 0), window(50, 50)), trimmed(cut(0, 3, 3, 0))},
		{"steps in vain", changed(plain(shifted(20, 20)), eyes(110, 110), window(50, 50)), refused()},
	} {
		expect(t, x.what, trim(x.c), x.want)
		if x.want.e == api.OK {
			expect(t, x.what+": Why", why(x.c), fine())
		}
	}
}

func TestWhy(t *testing.T) {
	for _, x := range []struct {
		what string
		c    api.Card
		want outcome
	}{
		{"eyes that are as far apart as can be", changed(plain(shifted(17, 24)), turns(3, 4), window(50, 50)), fine()},
		{"one thing, and eyes", changed(plain(shifted(20, 28)), turns(3, 4), window(50, 50), cuts(0)), refused(api.ApartEyes, 0, 0)},
		{"eyes that are too far apart", changed(plain(shifted(20, 20)), eyes(180, 188), turns(3, 4), window(50, 50)), refused(api.ApartEyes, 0, 0)},
		{"two things, and eyes", changed(plain(shifted(22, 24), shifted(20, 20), shifted(27, 28)), turns(3, 4), window(50, 50)), refused(api.ApartEyes, 2, 1)},
		{"the least a", changed(plain(shifted(27, 27), shifted(19, 19), shifted(28, 28), shifted(19, 19)), turns(3, 4), window(50, 50)), refused(api.ApartEyes, 0, 1)},
		{"the least b", changed(plain(shifted(23, 23), shifted(30, 30), shifted(20, 20), shifted(22, 22)), turns(3, 4), window(50, 50)), refused(api.ApartEyes, 1, 2)},
		{"what moved is not named", changed(plain(shifted(99, 99), shifted(20, 28)), turns(3, 4), window(50, 50)), refused(api.ApartEyes, 1, 1)},
		{"a window that is as deep as can be", changed(plain(shifted(20, 27)), turns(50, 50), window(3, 4), step(1), cuts(30)), fine()},
		{"one thing, and the window", changed(plain(shifted(20, 28)), turns(50, 50), window(3, 4)), refused(api.ApartWindow, 0, 0)},
		{"two things, and the window", changed(plain(shifted(24, 24), shifted(20, 20), shifted(28, 28)), turns(50, 50), window(3, 4)), refused(api.ApartWindow, 2, 1)},
		{"eyes come first", changed(plain(shifted(20, 28), shifted(40, 40)), turns(3, 5), window(3, 4)), refused(api.ApartEyes, 1, 0)},
		{"nothing but steps", changed(plain(shifted(21, 21)), turns(0, 0)), refused(api.ApartCuts, 0, 0)},
		{"nothing but edges", changed(plain(shifted(20, 20), at(span(120, 120), span(100, 100)))), refused(api.ApartCuts, 0, 0)},
		{"nothing is seen", changed(plain(), eyes(1, 10000), window(0, 0), cuts(0)), fine()},
	} {
		expect(t, x.what, why(x.c), x.want)
		if x.want.e != api.OK {
			expect(t, x.what+": Trim", trim(x.c), refused())
		}
	}
}

func TestEyes(t *testing.T) {
	uncut := cut(0, 0, 0, 0)
	for _, x := range []struct {
		what string
		c    api.Card
		cuts api.Cuts
		want outcome
	}{
		{"one shift", plain(shifted(20, 20)), uncut, is(180, 180)},
		{"a trimming", plain(shifted(20, 20)), cut(1, 2, 3, 0), is(130, 130)},
		{"eyes that turn", changed(plain(shifted(20, 20)), turns(5, 7)), uncut, is(175, 187)},
		{"more shifts", changed(plain(shifted(19, 22)), turns(5, 7)), uncut, is(176, 185)},
		{"more things", changed(plain(shifted(22, 22), shifted(99, 99), shifted(19, 19)), turns(5, 7)), uncut, is(176, 185)},
		{"things that are too far apart", changed(plain(shifted(10, 10), shifted(23, 23)), turns(5, 7)), uncut, failed(api.ErrNone)},
		{"things that are just not", changed(plain(shifted(10, 10), shifted(22, 22)), turns(5, 7)), uncut, is(185, 185)},
		{"eyes of the card", changed(plain(shifted(20, 20)), eyes(1, 2)), uncut, is(180, 180)},
		{"a window, and edges", changed(plain(at(span(120, 120), span(100, 100))), window(0, 0)), uncut, is(180, 180)},
		{"no thing", plain(), uncut, is(1, api.MaxEyes)},
		{"all eyes", changed(plain(shifted(20, 20)), turns(10000, 10000)), uncut, is(1, api.MaxEyes)},
		{"no eyes are so near together", changed(plain(shifted(20, 20)), half(11), step(1)), cut(1, 0, 1, 0), is(1, 1)},
		{"no eyes at all", changed(plain(shifted(20, 20)), half(11), step(1)), cut(1, 1, 1, 1), failed(api.ErrNone)},
	} {
		expect(t, x.what, eyesOf(x.c, x.cuts), x.want)
	}
	wide := changed(plain(at(span(-2000, 4000), span(3990, 3990))), turns(0, 6000))
	expect(t, "eyes at their limit", eyesOf(changed(wide, half(2005)), uncut), is(10000, 10000))
	expect(t, "eyes beyond their limit", eyesOf(changed(wide, half(2006)), uncut), failed(api.ErrNone))
}

func TestRoom(t *testing.T) {
	uncut := cut(0, 0, 0, 0)
	for _, x := range []struct {
		what string
		c    api.Card
		cuts api.Cuts
		want outcome
	}{
		{"one shift", plain(), uncut, is(20, 20)},
		{"things are not looked at", plain(shifted(40, 40)), uncut, is(20, 20)},
		{"nearer", changed(plain(), turns(0, 7), window(50, 50)), uncut, is(20, 27)},
		{"farther away", changed(plain(), turns(6, 0), window(50, 50)), uncut, is(14, 20)},
		{"wider eyes", changed(plain(), eyes(175, 178), turns(9, 9), window(50, 50)), uncut, is(16, 31)},
		{"before and behind the window", changed(plain(), turns(90, 90), window(6, 2)), cut(2, 0, 1, 1), is(8, 16)},
		{"behind 0", changed(plain(), turns(90, 90), window(6, 2)), uncut, is(0, 6)},
		{"a window behind 0", changed(plain(), turns(90, 90), window(6, 2)), cut(0, 1, 1, 0), failed(api.ErrNone)},
		{"a window just behind 0", changed(plain(), turns(90, 90), window(10, 2)), cut(0, 1, 1, 0), is(0, 0)},
		{"all shifts", changed(plain(), turns(9000, 9000), window(9000, 9000)), uncut, is(0, api.MaxShift)},
		{"eyes that are too far apart", changed(plain(), eyes(179, 180)), uncut, failed(api.ErrNone)},
		{"a trimming", changed(plain(), turns(0, 0), window(90, 90)), cut(0, 1, 0, 1), is(10, 10)},
		{"a trimming too many", changed(plain(), turns(0, 0), window(90, 90)), cut(0, 2, 1, 1), failed(api.ErrNone)},
		{"the greatest shift", changed(plain(), half(1090), turns(0, 0), window(2000, 0)), uncut, is(2000, 2000)},
		{"beyond the greatest shift", changed(plain(), half(1091), turns(1, 9), window(9000, 0)), uncut, failed(api.ErrNone)},
	} {
		expect(t, x.what, room(x.c, x.cuts), x.want)
	}
}

func TestDepths(t *testing.T) {
	uncut := cut(0, 0, 0, 0)
	blurred := func(c *api.Card) { c.Pair.Focal = span(40000, 50000) }
	for _, x := range []struct {
		what string
		c    api.Card
		cuts api.Cuts
		want outcome
	}{
		{"one shift", plain(), uncut, is(4762, 5000)},
		{"some shifts", changed(plain(), turns(10, 10), window(30, 0)), uncut, is(3226, 10000)},
		{"more than one power", changed(plain(), blurred, turns(10, 10), window(30, 0)), uncut, is(3226, 8000)},
		{"powers that are too far apart", changed(plain(), blurred), uncut, failed(api.ErrNone)},
		{"a landmark tells more", changed(plain(mark(2000, shifted(50, 50))), blurred), uncut, is(4762, 5000)},
		{"no room", changed(plain(), eyes(179, 180)), uncut, failed(api.ErrNone)},
		{"all distances", changed(plain(), turns(9000, 9000), window(9000, 9000)), uncut, is(2000, 100000)},
		{"the nearest distance", changed(plain(), half(115), window(50, 0)), uncut, is(2000, 2000)},
		{"nearer than all distances", changed(plain(), half(116), step(1), window(90, 0)), cut(0, 1, 0, 1), failed(api.ErrNone)},
		{"farther away than all distances", changed(plain(), half(90), window(2, 0), turns(0, 0)), uncut, failed(api.ErrNone)},
		{"the farthest distances in the room", changed(plain(), half(90), window(2, 0), turns(0, 1)), uncut, is(50001, 100000)},
		{"farther distances in the room", changed(plain(), half(90), window(2, 0), turns(0, 2)), uncut, is(33334, 100000)},
	} {
		expect(t, x.what, depths(x.c, x.cuts), x.want)
	}
	vast := changed(plain(), func(c *api.Card) {
		c.Pair.Focal, c.Pair.Base, c.Pair.Far = span(50000, 50000), span(10000, 10000), api.MaxFar
	}, turns(9000, 9000), window(9000, 9000))
	expect(t, "what is nearer than a shift can be", depths(vast, uncut), is(249876, api.MaxFar))
}

// bad returns changes that make the card one that is not valid.
func bad() []change {
	return []change{
		half(0), half(-1), half(4001), step(0), step(101), cuts(-1), cuts(41),
		eyes(0, 5), eyes(9, 10001), eyes(7, 6), eyes(10001, 10001), eyes(0, 0), eyes(9, -9),
		turns(-1, 0), turns(10001, 0), turns(0, -1), turns(0, 10001),
		window(-1, 0), window(10001, 0), window(0, -1), window(0, 10001),
		half(math.MinInt), half(math.MaxInt), step(math.MinInt), step(math.MaxInt), cuts(math.MaxInt), eyes(math.MinInt, math.MaxInt),
		turns(math.MaxInt, math.MaxInt), window(math.MaxInt, math.MaxInt), window(math.MinInt, math.MinInt),
		func(c *api.Card) { c.Pair.Focal = span(0, 9000) },
		func(c *api.Card) { c.Pair.Base = span(66, 65) },
		func(c *api.Card) { c.Pair.Tilt = -1 },
		func(c *api.Card) { c.Pair.Near = 1999 },
		func(c *api.Card) { c.Pair.Far = api.MaxFar + 1 },
		func(c *api.Card) { c.Pair.Things = make([]api.Thing, api.MaxThings+1) },
		things(shifted(0, 4001)),
		things(mark(1999, shifted(20, 20))),
		func(c *api.Card) { *c = api.Card{} },
	}
}

// noTrimmings returns what is no trimming of a card with 20 cuts.
func noTrimmings() []api.Cuts {
	return []api.Cuts{
		cut(-1, 1, 0, 0), cut(1, -1, 0, 0), cut(0, 0, -1, 1), cut(0, 0, 1, -1),
		cut(21, 0, 1, 20), cut(0, 21, 1, 20), cut(1, 20, 21, 0), cut(20, 1, 0, 21),
		cut(1, 0, 0, 0), cut(0, 1, 0, 0), cut(0, 0, 1, 0), cut(0, 0, 0, 1), cut(2, 1, 1, 1), cut(3, 3, 3, 4),
		cut(math.MaxInt, 1, math.MinInt, 0), cut(math.MinInt, math.MinInt, 0, 0), cut(math.MaxInt, math.MaxInt, math.MaxInt, math.MaxInt),
	}
}

func TestErrors(t *testing.T) {
	good := cut(2, 1, 0, 3)
	for k, f := range bad() {
		for _, c := range []api.Card{sample(f), sample(untrue, f)} {
			for _, cuts := range []api.Cuts{good, cut(1, 0, 0, 0), cut(-1, 0, 0, -1)} {
				for name, got := range everything(c, cuts) {
					if got != failed(api.ErrArg) {
						t.Errorf("%s of the card %d that is not valid, and %v: %v", name, k, cuts, got)
					}
				}
			}
		}
	}
	for _, cuts := range noTrimmings() {
		for name, got := range everything(sample(), cuts) {
			if withTrimming(name) && got != failed(api.ErrRange) {
				t.Errorf("%s of %v: %v", name, cuts, got)
			}
		}
		for name, got := range everything(sample(untrue), cuts) {
			if withTrimming(name) && got != failed(api.ErrRange) {
				t.Errorf("%s of %v, without a truth: %v", name, cuts, got)
			}
		}
	}
	for name, got := range everything(sample(untrue), good) {
		expect(t, name+" without a truth", got, failed(api.ErrNone))
	}
}

// What is at a limit is valid.
func TestLimits(t *testing.T) {
	for k, f := range []change{
		half(1), half(4000), step(1), step(100), cuts(3), cuts(40), eyes(1, 1), eyes(1, 10000), eyes(10000, 10000),
		turns(0, 0), turns(10000, 10000), window(0, 0), window(10000, 10000),
		func(c *api.Card) { c.Pair.Far = api.MaxFar },
		func(c *api.Card) { c.Pair.Near, c.Pair.Things = c.Pair.Far, nil },
		func(c *api.Card) { c.Pair.Things = make([]api.Thing, api.MaxThings) },
	} {
		for name, got := range everything(sample(f), cut(2, 1, 0, 3)) {
			if got.e == api.ErrArg || got.e == api.ErrRange {
				t.Errorf("%s of the card %d at a limit: %v", name, k, got)
			}
		}
	}
	c := sample(cuts(0))
	expect(t, "no cuts", seen(c), number(3))
	expect(t, "the trimming of no cuts", hurts(c, cut(0, 0, 0, 0)), refused(0, api.HurtFront))
	expect(t, "a trimming more", hurts(c, cut(1, 0, 1, 0)), failed(api.ErrRange))
	expect(t, "the most cuts", room(sample(cuts(40), turns(9000, 9000), window(9000, 9000)), cut(40, 40, 40, 40)), is(0, 2000))
}

// A great card with the most cuts is trimmed, too.
func TestMostCuts(t *testing.T) {
	c := changed(plain(), half(4000), step(100), cuts(40))
	for range api.MaxThings {
		c.Pair.Things = append(c.Pair.Things, shifted(20, 20))
	}
	expect(t, "nearly the most cuts", trim(c), trimmed(cut(39, 39, 39, 39)))
	c.Eyes = span(181, 181)
	expect(t, "no cuts", trim(c), refused())
	expect(t, "why there are none", why(c), refused(api.ApartCuts, 0, 0))
}
