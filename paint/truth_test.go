package paint_test

import (
	"math/bits"
	"math/rand/v2"
	"testing"

	"pairworks/api"
)

// agree returns whether two marks fit, number by number.
func agree(left, right api.Mark, shift api.Span) bool {
	tones := false
	for tone := left.Tone.Lo; tone <= left.Tone.Hi; tone++ {
		tones = tones || right.Tone.Lo <= tone && tone <= right.Tone.Hi
	}
	for a := left.At.Lo; tones && a <= left.At.Hi; a++ {
		for b := right.At.Lo; b <= right.At.Hi; b++ {
			if shift.Lo <= a-b && a-b <= shift.Hi {
				return true
			}
		}
	}
	return false
}

// pairs returns how many pairs two rows have at most, none of which cross.
func pairs(left, right []api.Mark, shift api.Span) int {
	if len(left) == 0 || len(right) == 0 {
		return 0
	}
	most := max(pairs(left[1:], right, shift), pairs(left, right[1:], shift))
	if agree(left[0], right[0], shift) {
		most = max(most, 1+pairs(left[1:], right[1:], shift))
	}
	return most
}

// ofRows is a set of marks of Left, and one of Right.
type ofRows struct{ left, right int }

func (s ofRows) many() int { return bits.OnesCount(uint(s.left)) + bits.OnesCount(uint(s.right)) }

// hasWay returns whether the rows of a canvas have a way without some marks.
func hasWay(c api.Canvas, gone ofRows) bool {
	r := rest(c, gone.left, gone.right).rows
	return len(r.Left)+len(r.Right)-2*pairs(r.Left, r.Right, r.Shift) <= r.Hidden
}

// allCases returns all cases in their order, found by a search through all sets of both rows.
func allCases(c api.Canvas) (found []ofRows) {
	for many := range c.Painted + 1 {
		for left := range 1 << len(c.Rows.Left) {
			if s := (ofRows{left, 0}); left > 0 && s.many() == many && hasWay(c, s) {
				found = append(found, s)
			}
		}
		for right := range 1 << len(c.Rows.Right) {
			if s := (ofRows{0, right}); s.many() == many && hasWay(c, s) {
				found = append(found, s)
			}
		}
	}
	return found
}

// sidesOf returns, as bits, what was painted in some case.
func sidesOf(cases []ofRows) (sides int) {
	for _, s := range cases {
		switch {
		case s.left > 0:
			sides |= api.PaintLeft
		case s.right > 0:
			sides |= api.PaintRight
		default:
			sides |= api.PaintNone
		}
	}
	return sides
}

// lensOf returns what Lens tells of cases.
func lensOf(c api.Canvas, cases []ofRows) outcome {
	if len(cases) < 2 {
		return failed(api.ErrNone)
	}
	best := told(0, 0, len(cases)+1)
	try := func(side, mark int, of func(ofRows) int) {
		var with, without int
		for _, s := range cases {
			if of(s)>>mark&1 == 1 {
				with++
			} else {
				without++
			}
		}
		if n := max(with, without); n < best.number[2] {
			best = told(side, mark, n)
		}
	}
	for k := range c.Rows.Left {
		try(api.PaintLeft, k, func(s ofRows) int { return s.left })
	}
	for k := range c.Rows.Right {
		try(api.PaintRight, k, func(s ofRows) int { return s.right })
	}
	return best
}

// wanted returns what all functions but Fits must tell of a canvas with these cases.
func wanted(c api.Canvas, cases []ofRows) map[string]outcome {
	want := map[string]outcome{"Cases": told(len(cases))}
	if len(cases) == 0 {
		for _, name := range []string{"Sides", "Fewest", "Can", "Sure", "Lens", "Rest"} {
			want[name] = failed(api.ErrNone)
		}
		return want
	}
	var can ofRows
	sure := cases[0]
	for _, s := range cases {
		can = ofRows{can.left | s.left, can.right | s.right}
		sure = ofRows{sure.left & s.left, sure.right & s.right}
	}
	want["Sides"] = told(sidesOf(cases))
	want["Fewest"] = told(cases[0].left, cases[0].right)
	want["Can"] = told(can.left, can.right)
	want["Sure"] = told(sure.left, sure.right)
	want["Lens"] = lensOf(c, cases)
	want["Rest"] = rest(c, sure.left, sure.right)
	return want
}

// anyCanvas returns a canvas with marks that can be the same, or nearly so.
func anyCanvas(r *rand.Rand) api.Canvas {
	tones, wide := 1+r.IntN(4), 1+r.IntN(3)
	row := func(at, most int) (marks []api.Mark) {
		step := 1 + r.IntN(4)
		for range r.IntN(most + 1) {
			at += r.IntN(step + 1)
			tone := r.IntN(tones)
			marks = append(marks, mark(at, at+r.IntN(wide+1), tone, tone+r.IntN(2)))
		}
		return marks
	}
	lo := r.IntN(10) - 4
	c := api.Canvas{Painted: r.IntN(api.MaxPainted + 1)}
	c.Rows = api.Rows{Left: row(10+r.IntN(6), 6), Right: row(10, 6), Shift: span(lo, lo+r.IntN(8))}
	if r.IntN(3) > 0 {
		c.Rows.Shift.Hi += 9
	}
	// How many must be painted is about the same for all.
	hidden := len(c.Rows.Left) + len(c.Rows.Right) - 2*pairs(c.Rows.Left, c.Rows.Right, c.Rows.Shift)
	c.Rows.Hidden = max(0, hidden+1-r.IntN(5))
	return c
}

// kinds counts what was met.
type kinds map[string]int

// need checks that each of these was met often enough.
func (n kinds) need(t *testing.T, least int, names ...string) {
	t.Helper()
	for _, name := range names {
		if n[name] < least {
			t.Errorf("%q was met %d times, which is too seldom", name, n[name])
		}
	}
}

// Each result is what all cases tell, one by one.
func TestAgainstAllCases(t *testing.T) {
	r := rand.New(rand.NewPCG(901, 902))
	n := kinds{}
	for range 10000 {
		c := anyCanvas(r)
		found := allCases(c)
		want := wanted(c, found)
		for name, got := range everything(c, 0, 0) {
			if name != "Fits" {
				expect(t, name, got, want[name])
			}
		}
		is := map[ofRows]bool{}
		for _, s := range found {
			is[s] = true
		}
		for left := range 1 << len(c.Rows.Left) {
			s := ofRows{left, r.IntN(1<<len(c.Rows.Right)) & r.IntN(1<<len(c.Rows.Right))}
			expect(t, "Fits of Left", fits(c, s.left, 0), yes(is[ofRows{s.left, 0}]))
			expect(t, "Fits of Right", fits(c, 0, s.right), yes(is[ofRows{0, s.right}]))
			expect(t, "Fits of both", fits(c, s.left, s.right), yes(is[s]))
		}
		if t.Failed() {
			t.Fatalf("the canvas is %+v", c)
		}
		n[[]string{"no case", "one case", "some cases"}[min(2, len(found))]]++
		if want["Lens"].number[0] == api.PaintRight && want["Sides"].number[0]&api.PaintLeft != 0 {
			n["a lens for the right row, though marks of both can be painted"]++
		}
		if want["Sure"].number != [3]int{} && want["Lens"].e == api.OK {
			n["sure marks, and some that are not"]++
		}
		n[[]string{"none", "none", "left", "none or left", "right", "none or right", "either", "any"}[want["Sides"].number[0]]]++
	}
	n.need(t, 50, "no case", "one case", "some cases", "none", "left", "right", "none or left", "none or right", "either", "any",
		"a lens for the right row, though marks of both can be painted", "sure marks, and some that are not")
}
