package mount_test

import (
	"math"
	"math/rand/v2"
	"slices"
	"testing"

	"pairworks/api"
	"pairworks/pair"
)

// truth is what is true of a card: the X of the left and of the right place of each thing, and its distance; 0: it moved.
type truth struct {
	left, right, far []int
	eyes, power      int
}

// trulyCard returns a truth, and a card whose spans contain it.
func trulyCard(r *rand.Rand) (api.Card, truth) {
	c, _ := small(r)
	c.Pair.Things = nil
	w := truth{power: 2 * (c.Pair.Focal.Lo + r.IntN(c.Pair.Focal.Hi-c.Pair.Focal.Lo+1)), eyes: c.Eyes.Lo + r.IntN(c.Eyes.Hi-c.Eyes.Lo+1)}
	usual := c.Pair.Near + r.IntN(c.Pair.Far-c.Pair.Near+1)
	for range r.IntN(5) {
		far := min(c.Pair.Far, max(c.Pair.Near, usual+r.IntN(500)-250))
		shift, tilt := w.power/far, r.IntN(2*c.Pair.Tilt+1)-c.Pair.Tilt
		if r.IntN(5) == 0 {
			far, shift, tilt = 0, r.IntN(60)-9, r.IntN(3)
		}
		left := r.IntN(90) - 45 + shift
		x := api.Thing{
			Left:  api.Place{X: around(r, left, r.IntN(3)), Y: around(r, 7, r.IntN(2))},
			Right: api.Place{X: around(r, left-shift, r.IntN(3)), Y: around(r, 7+tilt, r.IntN(2))},
		}
		if far != 0 && r.IntN(4) == 0 {
			x.Far = far
		}
		c.Pair.Things = append(c.Pair.Things, x)
		w.left, w.right, w.far = append(w.left, left), append(w.right, left-shift), append(w.far, far)
	}
	return c, w
}

// A trimmed card hurts nobody, wherever things truly stand; what is told of eyes and of shifts is so, too.
func TestTruthsAreWithin(t *testing.T) {
	r := rand.New(rand.NewPCG(33, 34))
	for range 3000 {
		c, w := trulyCard(r)
		all := allTrimmings(c)
		some := all[r.IntN(len(all))]
		best := trim(c)
		for k, far := range w.far {
			if far == 0 {
				continue
			}
			if seen(c).numbers[0]&(1<<k) == 0 {
				t.Fatalf("the thing %d of %+v is not seen, but it stands still", k, c)
			}
			if best.e == api.OK && (hurtsBy(c, best.cuts, w.left[k]-w.right[k], w.eyes) != 0 ||
				isCut(c, best.cuts.LeftLeft, best.cuts.LeftRight, w.left[k]) || isCut(c, best.cuts.RightLeft, best.cuts.RightRight, w.right[k])) {
				t.Fatalf("the thing %d of %+v hurts with %v", k, c, best.cuts)
			}
			expectTrue(t, c, some, w.left[k]-w.right[k])
		}
	}
}

// expectTrue looks at the eyes, the room and the depths that are told of a trimming, with the true shift of a thing that is seen.
func expectTrue(t *testing.T, c api.Card, cuts api.Cuts, shift int) {
	t.Helper()
	if s := eyesOf(c, cuts); s.e == api.OK {
		for _, n := range []int{s.span.Lo, s.span.Hi} {
			if why := hurtsBy(c, cuts, shift, n); why == api.HurtNear || why == api.HurtFar {
				t.Fatalf("the shift %d on %+v with %v hurts the eyes %d", shift, c, cuts, n)
			}
		}
	}
	if s := room(c, cuts); s.e == api.OK && holds(s.span, shift) {
		for _, n := range []int{c.Eyes.Lo, c.Eyes.Hi} {
			if hurtsBy(c, cuts, shift, n) != 0 {
				t.Fatalf("the shift %d in the room of %+v with %v hurts the eyes %d", shift, c, cuts, n)
			}
		}
	}
}

// A thing at a depth hurts nobody, whatever the power is; one that is a little nearer or farther away can.
func TestDepthsAreSafe(t *testing.T) {
	r := rand.New(rand.NewPCG(35, 36))
	safe := func(c api.Card, cuts api.Cuts, far int) bool {
		power, _ := pair.Power(c.Pair)
		for _, n := range []int{power.Lo, power.Hi} {
			for _, eyes := range []int{c.Eyes.Lo, c.Eyes.Hi} {
				if hurtsBy(c, cuts, n/far, eyes) != 0 || n/far > api.MaxShift {
					return false
				}
			}
		}
		return true
	}
	told := 0
	for range 3000 {
		c, cuts := small(r)
		s := depths(c, cuts)
		if s.e != api.OK {
			continue
		}
		told++
		for _, far := range []int{s.span.Lo, (s.span.Lo + s.span.Hi) / 2, s.span.Hi} {
			if !safe(c, cuts, far) {
				t.Fatalf("%d is a depth of %+v with %v, but hurts", far, c, cuts)
			}
		}
		if s.span.Lo > c.Pair.Near && safe(c, cuts, s.span.Lo-1) || s.span.Hi < c.Pair.Far && safe(c, cuts, s.span.Hi+1) {
			t.Fatalf("%v are not all depths of %+v with %v", s.span, c, cuts)
		}
	}
	if told < 500 {
		t.Errorf("just %d cards have depths", told)
	}
}

// Of two things that are named one hurts with any trimming, and no trimming that cuts off fewer steps is without hurt.
func TestNothingElseHelps(t *testing.T) {
	r := rand.New(rand.NewPCG(37, 38))
	for range 1500 {
		c, _ := small(r)
		best, reason := trim(c), why(c)
		for _, cuts := range allTrimmings(c) {
			if best.e == api.OK && steps(cuts) < steps(best.cuts) && hurts(c, cuts) == fine() {
				t.Fatalf("%v of %+v is better than %v", cuts, c, best)
			}
			if reason.e == api.ErrRefuse && hurts(c, cuts) == fine() {
				t.Fatalf("%v helps %+v, in spite of %v", cuts, c, reason)
			}
			if n := reason.numbers; n[0] == api.ApartEyes || n[0] == api.ApartWindow {
				if whyOne(c, cuts, c.Pair.Things[n[1]]) == 0 && whyOne(c, cuts, c.Pair.Things[n[2]]) == 0 {
					t.Fatalf("neither %d nor %d of %+v hurts with %v", n[1], n[2], c, cuts)
				}
			}
		}
	}
}

// fewer returns whether a card is trimmed by fewer steps than another one; one that no trimming helps needs the most.
func fewer(c, other api.Card) bool {
	one, two := trim(c), trim(other)
	return one.e == api.OK && (two.e != api.OK || steps(one.cuts) < steps(two.cuts))
}

// With less room no more steps are too few.
func TestLessRoom(t *testing.T) {
	r := rand.New(rand.NewPCG(39, 40))
	more := 0
	for range 2000 {
		c, _ := small(r)
		less := c
		switch r.IntN(5) {
		case 0:
			less.Prism = r.IntN(c.Prism + 1)
		case 1:
			less.Squeeze = r.IntN(c.Squeeze + 1)
		case 2:
			less.Front = r.IntN(c.Front + 1)
		case 3:
			less.Deep = r.IntN(c.Deep + 1)
		case 4:
			less.Eyes = span(max(1, c.Eyes.Lo-r.IntN(3)), c.Eyes.Hi+r.IntN(3))
		}
		if fewer(less, c) {
			t.Fatalf("%+v is trimmed less than %+v", less, c)
		}
		if fewer(c, less) {
			more++
		}
	}
	if more < 50 {
		t.Errorf("just %d cards need more steps with less room", more)
	}
}

func mirrored(s api.Span) api.Span { return span(-s.Hi, -s.Lo) }

// In a mirror both prints, and both edges of each, change places; nothing else changes.
func TestMirror(t *testing.T) {
	r := rand.New(rand.NewPCG(41, 42))
	for range 1500 {
		c, cuts := small(r)
		m, other := c, cut(cuts.RightRight, cuts.RightLeft, cuts.LeftRight, cuts.LeftLeft)
		m.Pair.Things = slices.Clone(c.Pair.Things)
		for k, x := range c.Pair.Things {
			m.Pair.Things[k].Left = api.Place{X: mirrored(x.Right.X), Y: x.Right.Y}
			m.Pair.Things[k].Right = api.Place{X: mirrored(x.Left.X), Y: x.Left.Y}
		}
		want := everything(c, cuts)
		for name, got := range everything(m, other) {
			if name == "Trim" {
				if got.e != want[name].e || steps(got.cuts) != steps(want[name].cuts) {
					t.Fatalf("%+v is trimmed by %v, and in a mirror by %v", c, want[name], got)
				}
				continue
			}
			expect(t, name+" in a mirror", got, want[name])
		}
	}
}

// The order of the things makes no difference but for their numbers.
func TestOrder(t *testing.T) {
	r := rand.New(rand.NewPCG(43, 44))
	for range 1500 {
		c, cuts := small(r)
		turned := c
		turned.Pair.Things = slices.Clone(c.Pair.Things)
		slices.Reverse(turned.Pair.Things)
		got, want := everything(turned, cuts), everything(c, cuts)
		for _, name := range []string{"Trim", "Eyes", "Room", "Depths"} {
			expect(t, name+", turned round", got[name], want[name])
		}
		expect(t, "Hurts, turned round", failed(got["Hurts"].e), failed(want["Hurts"].e))
		expect(t, "Why, turned round", number(got["Why"].numbers[0]), number(want["Why"].numbers[0]))
		for k := range c.Pair.Things {
			other := len(c.Pair.Things) - 1 - k
			if got["Seen"].numbers[0]>>other&1 != want["Seen"].numbers[0]>>k&1 {
				t.Errorf("the thing %d of %+v is seen by its number", k, c)
			}
		}
	}
}

// A card that is moved to one side within its prints has the same room, eyes and depths.
func TestMovedToOneSide(t *testing.T) {
	r := rand.New(rand.NewPCG(45, 46))
	for range 500 {
		c, cuts := small(r)
		moved := c
		moved.Pair.Things = slices.Clone(c.Pair.Things)
		for k := range moved.Pair.Things {
			x := &moved.Pair.Things[k]
			x.Left.X, x.Right.X = span(x.Left.X.Lo+9, x.Left.X.Hi+9), span(x.Right.X.Lo+9, x.Right.X.Hi+9)
		}
		got := everything(moved, cuts)
		for name, want := range everything(c, cuts) {
			if name == "Seen" || name == "Eyes" || name == "Room" || name == "Depths" {
				expect(t, name+", moved to one side", got[name], want)
			}
		}
	}
}

// Arguments are only read, and the same call has the same result.
func TestArgumentsAreOnlyRead(t *testing.T) {
	r := rand.New(rand.NewPCG(47, 48))
	for range 300 {
		c, cuts := small(r)
		room := append(slices.Clone(c.Pair.Things), shifted(1, 2), shifted(3, 4))
		before := slices.Clone(room)
		c.Pair.Things = room[:len(c.Pair.Things)]
		first := everything(c, cuts)
		for name, again := range everything(c, cuts) {
			expect(t, name+", asked again", again, first[name])
		}
		if !slices.Equal(room, before) {
			t.Fatalf("%v was changed to %v", before, room)
		}
	}
}

// A nil list of things is an empty one.
func TestNilList(t *testing.T) {
	empty := everything(plain([]api.Thing{}...), cut(1, 1, 2, 0))
	for name, got := range everything(changed(plain(), func(c *api.Card) { c.Pair.Things = nil }), cut(1, 1, 2, 0)) {
		expect(t, name+" of nil", got, empty[name])
	}
}

// Each function ends, and does not panic, whatever the numbers are.
func TestAnyNumbers(t *testing.T) {
	r := rand.New(rand.NewPCG(49, 50))
	strange := func() int {
		return []int{math.MinInt, -4001, -1, 0, 1, 2, 40, 41, 100, 101, 2000, 4000, 10000, 10001, 50000, 1 << 30, math.MaxInt}[r.IntN(17)]
	}
	numbers := []func(c *api.Card, n int){
		func(c *api.Card, n int) { c.Half = n }, func(c *api.Card, n int) { c.Step = n }, func(c *api.Card, n int) { c.Cuts = n },
		func(c *api.Card, n int) { c.Eyes.Lo = n }, func(c *api.Card, n int) { c.Eyes.Hi = n },
		func(c *api.Card, n int) { c.Prism = n }, func(c *api.Card, n int) { c.Squeeze = n },
		func(c *api.Card, n int) { c.Front = n }, func(c *api.Card, n int) { c.Deep = n },
		func(c *api.Card, n int) { c.Pair.Near = n }, func(c *api.Card, n int) { c.Pair.Far = n },
		func(c *api.Card, n int) { c.Pair.Focal.Hi = n }, func(c *api.Card, n int) { c.Pair.Base.Lo = n },
		func(c *api.Card, n int) { c.Pair.Things = append(c.Pair.Things, shifted(n, strange())) },
	}
	for range 3000 {
		c, cuts := small(r)
		for range 1 + r.IntN(3) {
			numbers[r.IntN(len(numbers))](&c, strange())
		}
		if r.IntN(2) == 0 {
			cuts = cut(strange(), strange(), strange(), strange())
		}
		everything(c, cuts)
	}
}
