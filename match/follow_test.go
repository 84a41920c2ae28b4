package match_test

import (
	"math/rand/v2"
	"slices"
	"testing"

	"pairworks/api"
)

// clone returns rows with marks of their own.
func clone(r api.Rows) api.Rows {
	r.Left, r.Right = slices.Clone(r.Left), slices.Clone(r.Right)
	return r
}

// truth is what is true of rows: which marks are the same, by how much the left one stands farther to the right, and which marks are hidden.
type truth struct {
	pairs       [][2]int
	shifts      []int
	left, right int
}

func (w truth) hidden(r api.Rows) int { return hiddenBy(r, w.pairs) }

// around returns a span with a number, within 0 and a greatest number.
func around(r *rand.Rand, n, wide, most int) api.Span {
	return span(max(0, n-r.IntN(wide+1)), min(most, n+r.IntN(wide+1)))
}

// trulyRows returns a truth, and rows whose spans contain it.
func trulyRows(r *rand.Rand, most int) (api.Rows, truth) {
	near := r.IntN(400) - 200
	rows, w := api.Rows{Shift: span(near, near+r.IntN(200))}, truth{}
	at, tones := 1000+r.IntN(2000), 1+r.IntN(20)
	for range r.IntN(most + 1) {
		at += r.IntN(40)
		tone, shift := r.IntN(tones), rows.Shift.Lo+r.IntN(rows.Shift.Hi-rows.Shift.Lo+1)
		left := api.Mark{At: around(r, at+shift, 20, api.MaxAt), Tone: around(r, tone, 2, api.MaxTone)}
		right := api.Mark{At: around(r, at, 20, api.MaxAt), Tone: around(r, tone, 2, api.MaxTone)}
		switch r.IntN(6) {
		case 0:
			w.left |= 1 << len(rows.Left)
			rows.Left = append(rows.Left, left)
		case 1:
			w.right |= 1 << len(rows.Right)
			rows.Right = append(rows.Right, right)
		default:
			w.pairs = append(w.pairs, [2]int{len(rows.Left), len(rows.Right)})
			w.shifts = append(w.shifts, shift)
			rows.Left, rows.Right = append(rows.Left, left), append(rows.Right, right)
		}
	}
	rows.Hidden = min(20, w.hidden(rows)+r.IntN(3))
	return rows, w
}

// expectTruth compares what rows tell with what is true.
func expectTruth(t *testing.T, rows api.Rows, w truth) {
	t.Helper()
	n, f, c, s, h := count(rows), fewest(rows), can(rows), sure(rows), hides(rows)
	if n.failed != api.OK || n.a < 1 || f.failed != api.OK || f.a > w.hidden(rows) || h.failed != api.OK {
		t.Errorf("Count is %v, Fewest %v, and Hides %v", n, f, h)
		return
	}
	if w.left&^h.a != 0 || w.right&^h.b != 0 {
		t.Errorf("Hides is %v, but %b and %b are hidden", h, w.left, w.right)
	}
	for k, p := range w.pairs {
		if !fits(rows, p[0], p[1]).truly || c.list[p[0]]&(1<<p[1]) == 0 {
			t.Errorf("Can is %v, but %v is a pair", c, p)
		}
		if got := shift(rows, p[0]); got.failed != api.OK || !holds(got.span, w.shifts[k]) {
			t.Errorf("Shift is %v, but %d is true", got, w.shifts[k])
		}
	}
	for left, right := range s.list {
		if right != api.NoMark && partner(w.pairs, left) != right {
			t.Errorf("Sure is %v, but %d is no pair with %d", s, left, right)
		}
	}
}

// What is true is among what can be, and what is sure is true.
func TestTruthsAreWithin(t *testing.T) {
	r := rand.New(rand.NewPCG(3, 4))
	for range 1500 {
		rows, w := trulyRows(r, 10)
		expectTruth(t, rows, w)
		if t.Failed() {
			t.Fatalf("the rows are %v, and the truth is %v", rows, w)
		}
	}
}

// No answer about the mark that is asked about leaves more ways than is told.
func TestNoAnswerLeavesMore(t *testing.T) {
	r := rand.New(rand.NewPCG(5, 6))
	asked := 0
	for range 1500 {
		rows, w := trulyRows(r, 6)
		got, ways := ask(rows), findWays(rows)
		if got.failed != api.OK {
			continue
		}
		asked++
		left := 0
		for _, pairs := range ways {
			if partner(pairs, got.a) == partner(w.pairs, got.a) {
				left++
			}
		}
		if left > got.b || got.b >= len(ways) {
			t.Fatalf("Ask of %v is %v, but %d of %d ways are left", rows, got, left, len(ways))
		}
	}
	if asked < 300 {
		t.Errorf("only %d rows have several ways", asked)
	}
}

// part returns a part of a span.
func part(r *rand.Rand, s api.Span) api.Span {
	lo := s.Lo + r.IntN(s.Hi-s.Lo+1)
	return span(lo, lo+r.IntN(s.Hi-lo+1))
}

// narrower returns rows of which more is known.
func narrower(r *rand.Rand, rows api.Rows) api.Rows {
	rows = clone(rows)
	switch r.IntN(4) {
	case 0:
		rows.Hidden = r.IntN(rows.Hidden + 1)
	case 1:
		rows.Shift = part(r, rows.Shift)
	case 2:
		for k, m := range rows.Left {
			rows.Left[k] = api.Mark{At: part(r, m.At), Tone: part(r, m.Tone)}
		}
	case 3:
		for k, m := range rows.Right {
			rows.Right[k] = api.Mark{At: part(r, m.At), Tone: part(r, m.Tone)}
		}
	}
	return rows
}

func TestNarrower(t *testing.T) {
	r := rand.New(rand.NewPCG(7, 8))
	fewer := 0
	for range 3000 {
		wide, _ := trulyRows(r, 10)
		narrow := narrower(r, wide)
		many, few := count(wide), count(narrow)
		if few.a > many.a || few.failed != api.OK {
			t.Fatalf("%v has %v ways, but %v has %v", wide, many, narrow, few)
		}
		if few.a < many.a {
			fewer++
		}
		for left := range narrow.Left {
			got, all := shift(narrow, left), shift(wide, left)
			if got.failed == api.OK && (all.failed != api.OK || !holds(all.span, got.span.Lo) || !holds(all.span, got.span.Hi)) {
				t.Fatalf("the shift of %d of %v is %v, but of %v %v", left, wide, all, narrow, got)
			}
		}
	}
	if fewer < 300 {
		t.Errorf("only %d rows have fewer ways", fewer)
	}
}

// turned returns a set of pairs, told by left marks, told by right ones.
func turned(can []int, rights int) []int {
	other := make([]int, rights)
	for left, all := range can {
		for right := range rights {
			other[right] |= all >> right & 1 << left
		}
	}
	return other
}

// If left and right change places there are as many ways, with each pair turned round.
func TestChangedPlaces(t *testing.T) {
	r := rand.New(rand.NewPCG(9, 10))
	for range 1500 {
		rows, _ := trulyRows(r, 10)
		other := api.Rows{Left: rows.Right, Right: rows.Left, Shift: span(-rows.Shift.Hi, -rows.Shift.Lo), Hidden: rows.Hidden}
		expect(t, "Count", count(other), count(rows))
		expect(t, "Can", can(other), list(turned(can(rows).list, len(rows.Right))...))
		expect(t, "Hides", hides(other), numbers(hides(rows).b, hides(rows).a))
		if fewest(other).a != fewest(rows).a {
			t.Errorf("Fewest is %v, turned round %v", fewest(rows), fewest(other))
		}
		for left, right := range sure(rows).list {
			if right != api.NoMark && sure(other).list[right] != left {
				t.Errorf("Sure is %v, turned round %v", sure(rows), sure(other))
			}
		}
		if t.Failed() {
			t.Fatalf("the rows are %v", rows)
		}
	}
}

// mirrored returns a row that is told from the other end.
func mirrored(row []api.Mark) []api.Mark {
	var other []api.Mark
	for _, m := range slices.Backward(row) {
		m.At = span(api.MaxAt-m.At.Hi, api.MaxAt-m.At.Lo)
		other = append(other, m)
	}
	return other
}

// If both rows are told from the other end there are as many ways.
func TestMirror(t *testing.T) {
	r := rand.New(rand.NewPCG(11, 12))
	for range 1500 {
		rows, _ := trulyRows(r, 10)
		other := api.Rows{Left: mirrored(rows.Left), Right: mirrored(rows.Right), Shift: span(-rows.Shift.Hi, -rows.Shift.Lo), Hidden: rows.Hidden}
		expect(t, "Count", count(other), count(rows))
		if fewest(other).a != fewest(rows).a {
			t.Errorf("Fewest is %v, in a mirror %v", fewest(rows), fewest(other))
		}
		for left := range rows.Left {
			want := shift(rows, left)
			want.span = span(-want.span.Hi, -want.span.Lo)
			expect(t, "Shift", shift(other, len(rows.Left)-1-left), want)
		}
		if t.Failed() {
			t.Fatalf("the rows are %v", rows)
		}
	}
}

// Arguments are only read, and the same call has the same result, in memory of its own.
func TestArgumentsAreOnlyRead(t *testing.T) {
	r := rand.New(rand.NewPCG(13, 14))
	for range 100 {
		rows, _ := trulyRows(r, 10)
		before := clone(rows)
		first := everything(rows, 0, 0)
		for name, want := range everything(rows, 0, 0) {
			expect(t, name, first[name], want)
		}
		if !slices.Equal(rows.Left, before.Left) || !slices.Equal(rows.Right, before.Right) {
			t.Fatalf("%v was changed to %v", before, rows)
		}
	}
	// Room behind the marks is not theirs to be written to.
	room, rows := sample().Left, sample()
	rows.Left = room[:1]
	everything(rows, 0, 0)
	if !slices.Equal(room, sample().Left) {
		t.Error("marks behind those of the rows were changed")
	}
	given := fewest(sample())
	fewest(sample()).pairs[0] = [2]int{9, 9}
	can(sample()).list[0] = 9
	sure(sample()).list[0] = 9
	expect(t, "Fewest again", fewest(sample()), given)
	expect(t, "Can again", can(sample()), list(1, 2, 12))
	expect(t, "Sure again", sure(sample()), list(0, 1, -1))
}

// Each function ends, and does not panic, whatever the numbers are.
func TestAnyNumbers(t *testing.T) {
	r := rand.New(rand.NewPCG(15, 16))
	number := func() int {
		return []int{-1 << 63, -65537, -65536, -1, 0, 1, 2, 9, 10, 11, 20, 21, 1000, 1001, 65536, 65537, 1<<63 - 1}[r.IntN(17)]
	}
	any := func() api.Span { return span(number(), number()) }
	row := func() (marks []api.Mark) {
		for range r.IntN(12) {
			m := mark(0, r.IntN(100), 0, r.IntN(10))
			if r.IntN(30) == 0 {
				m = api.Mark{At: any(), Tone: any()}
			}
			marks = append(marks, m)
		}
		return marks
	}
	valid := 0
	for range 1000 {
		rows := api.Rows{Left: row(), Right: row(), Shift: span(-9, 9), Hidden: r.IntN(21)}
		if r.IntN(4) == 0 {
			rows.Shift, rows.Hidden = any(), number()
		}
		if everything(rows, number(), number())["Count"].failed == api.OK {
			valid++
		}
	}
	if valid < 300 || valid > 900 {
		t.Errorf("%d rows are valid", valid)
	}
}
