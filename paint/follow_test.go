package paint_test

import (
	"math"
	"math/bits"
	"math/rand/v2"
	"slices"
	"testing"

	"pairworks/api"
	"pairworks/match"
	"pairworks/paint"
)

// around returns a span that contains a number.
func around(r *rand.Rand, n, wide, most int) api.Span {
	return span(max(0, n-r.IntN(wide)), min(most, n+r.IntN(wide)))
}

// trulyPainted returns a canvas, and what truly was painted.
func trulyPainted(r *rand.Rand) (c api.Canvas, truth ofRows) {
	c.Rows.Shift = span(-r.IntN(50), r.IntN(50))
	at, tones, hidden := 1000, 1+r.IntN(6), 0
	many, intoLeft := r.IntN(api.MaxPainted+1), r.IntN(2) == 0
	place := r.Perm(7)[:many] // those that are painted, among all things
	for thing := range r.IntN(7) + 1 {
		at += r.IntN(30)
		tone, shift := r.IntN(tones), c.Rows.Shift.Lo+r.IntN(c.Rows.Shift.Hi-c.Rows.Shift.Lo+1)
		left := api.Mark{At: around(r, at+shift, 5, api.MaxAt), Tone: around(r, tone, 2, api.MaxTone)}
		right := api.Mark{At: around(r, at, 5, api.MaxAt), Tone: around(r, tone, 2, api.MaxTone)}
		isPainted := slices.Contains(place, thing)
		switch {
		case isPainted && intoLeft:
			truth.left |= 1 << len(c.Rows.Left)
			c.Rows.Left = append(c.Rows.Left, left)
		case isPainted:
			truth.right |= 1 << len(c.Rows.Right)
			c.Rows.Right = append(c.Rows.Right, right)
		case r.IntN(6) == 0:
			hidden++
			c.Rows.Left = append(c.Rows.Left, left)
		case r.IntN(6) == 0:
			hidden++
			c.Rows.Right = append(c.Rows.Right, right)
		default:
			c.Rows.Left, c.Rows.Right = append(c.Rows.Left, left), append(c.Rows.Right, right)
		}
	}
	c.Rows.Hidden = hidden + r.IntN(2)
	c.Painted = min(api.MaxPainted, truth.many()+r.IntN(2))
	return c, truth
}

// contain returns whether sets that are told have all marks of others.
func contain(o outcome, s ofRows) bool {
	return o.e == api.OK && s.left&^o.number[0] == 0 && s.right&^o.number[1] == 0
}

// Whatever was truly painted is a case, is among all that can be, and has all that surely is.
func TestTruthsAreAmongTheCases(t *testing.T) {
	r := rand.New(rand.NewPCG(903, 904))
	n := kinds{}
	for range 3000 {
		c, truth := trulyPainted(r)
		few, sure := fewest(c), sure(c)
		switch {
		case !fits(c, truth.left, truth.right).is:
			t.Error("the truth is no case")
		case cases(c).number[0] < 1 || !contain(can(c), truth):
			t.Error("the truth cannot be")
		case sure.e != api.OK || sure.number[0]&^truth.left != 0 || sure.number[1]&^truth.right != 0:
			t.Errorf("%v is sure", sure)
		case sides(c).number[0]&sidesOf([]ofRows{truth}) == 0:
			t.Errorf("the sides are %v", sides(c))
		case few.e != api.OK || (ofRows{few.number[0], few.number[1]}).many() > truth.many():
			t.Errorf("the fewest are %v", few)
		}
		if t.Failed() {
			t.Fatalf("%+v was painted in %+v", truth, c)
		}
		n[[]string{"", "none", "left", "", "right"}[sidesOf([]ofRows{truth})]]++
		if sure.number != [3]int{} {
			n["sure"]++
		}
	}
	n.need(t, 200, "none", "left", "right", "sure")
}

// What surely was painted is painted on the side that is named, in each case.
func TestSureOnOneSide(t *testing.T) {
	r := rand.New(rand.NewPCG(905, 906))
	n := kinds{}
	for range 6000 {
		c := anyCanvas(r)
		o := sure(c)
		if o.number == [3]int{} {
			continue
		}
		left, right := o.number[0], o.number[1]
		if left != 0 && (right != 0 || sides(c).number[0] != api.PaintLeft) || right != 0 && sides(c).number[0] != api.PaintRight {
			t.Fatalf("%v is sure of %+v, but the sides are %v", o, c, sides(c))
		}
		if other := can(c); left == 0 && other.number[0] != 0 || right == 0 && other.number[1] != 0 {
			t.Fatalf("%v is sure of %+v, but %v can be", o, c, other)
		}
		n["sure"]++
	}
	n.need(t, 200, "sure")
}

// What is left without the marks of a case has a way, and what is left without all that is sure is left of it.
func TestWhatIsLeftHasWays(t *testing.T) {
	r := rand.New(rand.NewPCG(907, 908))
	n := kinds{}
	for range 2000 {
		c := anyCanvas(r)
		all := allCases(c)
		for _, s := range all {
			if ways, e := match.Count(rest(c, s.left, s.right).rows); ways == 0 || e != api.OK {
				t.Fatalf("without %+v there is no way of %+v", s, c)
			}
		}
		o := whatIsLeft(c)
		if len(all) != 1 {
			continue
		}
		n["one case"]++
		if ways, e := match.Count(o.rows); ways == 0 || e != api.OK || o.e != api.OK {
			t.Fatalf("%v is left of %+v, which has no way", o, c)
		}
	}
	n.need(t, 200, "one case")
}

// Whatever a lens tells of the mark that is named, no more cases are left than is told.
func TestNoLensLeavesMore(t *testing.T) {
	r := rand.New(rand.NewPCG(909, 910))
	n := kinds{}
	for range 2000 {
		c := anyCanvas(r)
		o, all := lens(c), allCases(c)
		if o.e != api.OK {
			continue
		}
		with := 0
		for _, s := range all {
			marks := s.left
			if o.number[0] == api.PaintRight {
				marks = s.right
			}
			with += marks >> o.number[1] & 1
		}
		if with == 0 || with == len(all) || max(with, len(all)-with) != o.number[2] {
			t.Fatalf("Lens of %+v is %v, but it was painted in %d of %d cases", c, o, with, len(all))
		}
		n["looked"]++
	}
	n.need(t, 500, "looked")
}

// changed returns a canvas that is changed, with lists of its own.
func changed(c api.Canvas, change func(*api.Canvas)) api.Canvas {
	c.Rows.Left, c.Rows.Right = slices.Clone(c.Rows.Left), slices.Clone(c.Rows.Right)
	change(&c)
	return c
}

// wider returns a span with more numbers.
func wider(r *rand.Rand, s api.Span, least, most int) api.Span {
	return span(max(least, s.Lo-r.IntN(3)), min(most, s.Hi+r.IntN(3)))
}

// With a greater Painted, or Hidden, or wider spans, each case is one still.
func TestMoreCanBe(t *testing.T) {
	r := rand.New(rand.NewPCG(911, 912))
	n := kinds{}
	for range 1500 {
		c := anyCanvas(r)
		all := allCases(c)
		for what, change := range map[string]func(*api.Canvas){
			"Painted": func(c *api.Canvas) { c.Painted = min(api.MaxPainted, c.Painted+1) },
			"Hidden":  func(c *api.Canvas) { c.Rows.Hidden++ },
			"Shift":   func(c *api.Canvas) { c.Rows.Shift = wider(r, c.Rows.Shift, -api.MaxAt, api.MaxAt) },
			"marks": func(c *api.Canvas) {
				for k, m := range c.Rows.Left {
					c.Rows.Left[k] = api.Mark{At: wider(r, m.At, 0, api.MaxAt), Tone: wider(r, m.Tone, 0, api.MaxTone)}
				}
			},
		} {
			d := changed(c, change)
			for _, s := range all {
				if !fits(d, s.left, s.right).is {
					t.Fatalf("with more %s %+v is no case of %+v, but it is one of %+v", what, s, d, c)
				}
			}
			if cases(d).number[0] < len(all) {
				t.Fatalf("with more %s there are fewer cases", what)
			}
			if cases(d).number[0] > len(all) {
				n[what]++
			}
			if o := sure(c); o.e == api.OK && (sure(d).number[0]&^o.number[0] != 0 || sure(d).number[1]&^o.number[1] != 0) {
				t.Fatalf("with more %s %v is sure, and not %v alone", what, sure(d), o)
			}
			if o := can(c); !contain(can(d), ofRows{o.number[0], o.number[1]}) && o.e == api.OK {
				t.Fatalf("with more %s %v can be, and not %v", what, can(d), o)
			}
		}
	}
	n.need(t, 100, "Painted", "Hidden", "Shift", "marks")
}

// swapped returns an outcome of two sets, with both turned round.
func swapped(o outcome) outcome {
	o.number[0], o.number[1] = o.number[1], o.number[0]
	return o
}

// If left and right change places, and Shift is turned round, so do the sets.
func TestChangedPlaces(t *testing.T) {
	r := rand.New(rand.NewPCG(913, 914))
	for range 1500 {
		c := anyCanvas(r)
		d := c
		d.Rows.Left, d.Rows.Right = c.Rows.Right, c.Rows.Left
		d.Rows.Shift = span(-c.Rows.Shift.Hi, -c.Rows.Shift.Lo)
		expect(t, "Cases", cases(d), cases(c))
		expect(t, "Can", can(d), swapped(can(c)))
		expect(t, "Sure", sure(d), swapped(sure(c)))
		sides, other := sides(c), sides(d)
		expect(t, "the error of Sides", other.e, sides.e)
		for _, bit := range [][2]int{{api.PaintNone, api.PaintNone}, {api.PaintLeft, api.PaintRight}, {api.PaintRight, api.PaintLeft}} {
			expect(t, "a bit of Sides", other.number[0]&bit[1] != 0, sides.number[0]&bit[0] != 0)
		}
		expect(t, "how many cases are left", lens(d).number[2], lens(c).number[2])
		few, fewOther := fewest(c), fewest(d)
		expect(t, "how many are the fewest", bits.OnesCount(uint(fewOther.number[0]|fewOther.number[1])), bits.OnesCount(uint(few.number[0]|few.number[1])))
		left, right := whatIsLeft(c), whatIsLeft(d)
		expect(t, "what is left of one row", right.rows.Left, left.rows.Right)
		expect(t, "what is left of the other one", right.rows.Right, left.rows.Left)
		for _, s := range allCases(c) {
			expect(t, "Fits", fits(d, s.right, s.left), yes(true))
		}
		if t.Failed() {
			t.Fatalf("the canvas is %+v", c)
		}
	}
}

// If nothing can have been painted there is a case just if the rows have a way.
func TestNothingCanBePainted(t *testing.T) {
	r := rand.New(rand.NewPCG(915, 916))
	n := kinds{}
	for range 2000 {
		c := anyCanvas(r)
		c.Painted = 0
		ways, _ := match.Count(c.Rows)
		expect(t, "Cases", cases(c), told(min(1, ways)))
		expect(t, "Fits", fits(c, 0, 0), yes(ways > 0))
		if ways > 0 {
			expect(t, "Sides", sides(c), told(api.PaintNone))
			expect(t, "Rest", whatIsLeft(c), rest(c, 0, 0))
		}
		n[[]string{"no way", "a way"}[min(1, ways)]]++
		if t.Failed() {
			t.Fatalf("the canvas is %+v", c)
		}
	}
	n.need(t, 300, "no way", "a way")
}

// Arguments are only read, also behind what they contain; the same call has the same result.
func TestArgumentsAreOnlyRead(t *testing.T) {
	r := rand.New(rand.NewPCG(917, 918))
	for range 300 {
		c, truth := trulyPainted(r)
		left, right := len(c.Rows.Left), len(c.Rows.Right)
		c.Rows.Left = append(c.Rows.Left, mark(1, 2, 3, 4), mark(5, 6, 7, 8))[:left]
		c.Rows.Right = append(c.Rows.Right, mark(1, 2, 3, 4), mark(5, 6, 7, 8))[:right]
		lefts, rights := slices.Clone(c.Rows.Left[:left+2]), slices.Clone(c.Rows.Right[:right+2])
		once := everything(c, truth.left, truth.right)
		for name, again := range everything(c, truth.left, truth.right) {
			expect(t, name+", asked again", again, once[name])
		}
		expect(t, "Left", c.Rows.Left[:left+2], lefts)
		expect(t, "Right", c.Rows.Right[:right+2], rights)
	}
}

// What Rest returns is new memory, also if nothing is gone.
func TestResultsAreNew(t *testing.T) {
	for _, c := range []api.Canvas{sample(), canvasD(), canvasE(), toned("123", "12", 0, 1), alike(3, 3, 0, 3)} {
		before := changed(c, func(*api.Canvas) {})
		got, e := paint.Rest(c)
		expect(t, "the error of Rest", e, api.OK)
		for k := range got.Left {
			got.Left[k] = mark(9, 9, 9, 9)
		}
		for k := range got.Right {
			got.Right[k] = mark(8, 8, 8, 8)
		}
		got.Left, got.Right = append(got.Left, mark(7, 7, 7, 7)), append(got.Right, mark(7, 7, 7, 7))
		for _, m := range got.Left[:len(got.Left)-1] {
			expect(t, "a mark that is written over", m, mark(9, 9, 9, 9))
		}
		expect(t, "the canvas", c, before)
	}
}

// No call panics, whatever it is given, and with an error all other results are zero.
func TestAnyNumbers(t *testing.T) {
	r := rand.New(rand.NewPCG(919, 920))
	some := []int{math.MinInt, -65537, -65536, -1, 0, 1, 2, 3, 4, 20, 21, 1000, 1001, 65536, 65537, math.MaxInt}
	any := func() int { return some[r.IntN(len(some))] }
	errors := map[api.Errno]int{}
	for range 3000 {
		c := anyCanvas(r)
		spans := []*api.Span{&c.Rows.Shift}
		for _, row := range [][]api.Mark{c.Rows.Left, c.Rows.Right} {
			for k := range row {
				spans = append(spans, &row[k].At, &row[k].Tone)
			}
		}
		for range r.IntN(3) {
			wild := span(any(), any())
			if r.IntN(4) > 0 {
				wild = span(min(wild.Lo, wild.Hi), max(wild.Lo, wild.Hi))
			}
			*spans[r.IntN(len(spans))] = wild
		}
		switch r.IntN(20) {
		case 0:
			c.Painted = any()
		case 1:
			c.Rows.Hidden = any()
		case 2:
			c.Rows.Left = make([]api.Mark, r.IntN(14))
		}
		for name, got := range everything(c, any(), any()) {
			errors[got.e]++
			if got.e != api.OK {
				expect(t, name, got, failed(got.e))
			}
		}
	}
	for _, e := range []api.Errno{api.OK, api.ErrArg, api.ErrRange, api.ErrNone} {
		if errors[e] < 300 {
			t.Errorf("just %d calls with the error %d", errors[e], e)
		}
	}
	if len(errors) != 4 {
		t.Errorf("there are other errors: %v", errors)
	}
}
