package match_test

import (
	"math"
	"reflect"
	"testing"

	"pairworks/api"
	"pairworks/match"
)

func span(lo, hi int) api.Span { return api.Span{Lo: lo, Hi: hi} }

// mark returns a mark: from where to where it stands, and its tones.
func mark(a, b, c, d int) api.Mark { return api.Mark{At: span(a, b), Tone: span(c, d)} }

// sample returns the rows of the chapter's examples.
func sample() api.Rows {
	return api.Rows{
		Left:  []api.Mark{mark(100, 102, 10, 12), mark(200, 202, 50, 55), mark(300, 301, 10, 13)},
		Right: []api.Mark{mark(90, 92, 11, 12), mark(185, 190, 52, 60), mark(280, 282, 9, 10), mark(292, 294, 12, 14)},
		Shift: span(5, 20), Hidden: 1,
	}
}

// alike returns rows of marks all of which fit.
func alike(left, right, hidden int) api.Rows {
	return api.Rows{Left: make([]api.Mark, left), Right: make([]api.Mark, right), Hidden: hidden}
}

// toned returns rows of marks that fit if their tones are the same.
func toned(left, right []int, hidden int) api.Rows {
	r := api.Rows{Hidden: hidden}
	for _, tone := range left {
		r.Left = append(r.Left, mark(0, 0, tone, tone))
	}
	for _, tone := range right {
		r.Right = append(r.Right, mark(0, 0, tone, tone))
	}
	return r
}

// outcome is all results of a call.
type outcome struct {
	list   []int
	pairs  [][2]int
	span   api.Span
	a, b   int
	truly  bool
	failed api.Errno
}

func failed(e api.Errno) outcome { return outcome{failed: e} }

func number(n int) outcome { return outcome{a: n} }

func numbers(a, b int) outcome { return outcome{a: a, b: b} }

func list(l ...int) outcome { return outcome{list: l} }

func is(s api.Span) outcome { return outcome{span: s} }

func truly(is bool) outcome { return outcome{truly: is} }

// way returns the outcome of Fewest.
func way(hidden int, pairs ...[2]int) outcome { return outcome{a: hidden, pairs: pairs} }

func fits(r api.Rows, left, right int) outcome {
	is, e := match.Fits(r, left, right)
	return outcome{truly: is, failed: e}
}

func count(r api.Rows) outcome {
	n, e := match.Count(r)
	return outcome{a: n, failed: e}
}

func fewest(r api.Rows) outcome {
	pairs, n, e := match.Fewest(r)
	return outcome{pairs: pairs, a: n, failed: e}
}

func can(r api.Rows) outcome {
	l, e := match.Can(r)
	return outcome{list: l, failed: e}
}

func sure(r api.Rows) outcome {
	l, e := match.Sure(r)
	return outcome{list: l, failed: e}
}

func hides(r api.Rows) outcome {
	left, right, e := match.Hides(r)
	return outcome{a: left, b: right, failed: e}
}

func shift(r api.Rows, left int) outcome {
	s, e := match.Shift(r, left)
	return outcome{span: s, failed: e}
}

func ask(r api.Rows) outcome {
	left, ways, e := match.Ask(r)
	return outcome{a: left, b: ways, failed: e}
}

// everything calls each function, with numbers of marks, and returns what it does.
func everything(r api.Rows, left, right int) map[string]outcome {
	return map[string]outcome{
		"Fits": fits(r, left, right), "Count": count(r), "Fewest": fewest(r), "Can": can(r),
		"Sure": sure(r), "Hides": hides(r), "Shift": shift(r, left), "Ask": ask(r),
	}
}

// same returns whether two outcomes are the same; a nil list is an empty one.
func same(a, b outcome) bool {
	lists := len(a.list)+len(b.list) == 0 || reflect.DeepEqual(a.list, b.list)
	pairs := len(a.pairs)+len(b.pairs) == 0 || reflect.DeepEqual(a.pairs, b.pairs)
	a.list, b.list, a.pairs, b.pairs = nil, nil, nil, nil
	return lists && pairs && reflect.DeepEqual(a, b)
}

func expect(t *testing.T, what string, got, want outcome) {
	t.Helper()
	if !same(got, want) {
		t.Errorf("%s: %v, want %v", what, got, want)
	}
}

func TestExamples(t *testing.T) {
	r := sample()
	expect(t, "Fits of 0 and 0", fits(r, 0, 0), truly(true))
	expect(t, "Fits of 2 and 0", fits(r, 2, 0), truly(false))
	expect(t, "Count", count(r), number(2))
	expect(t, "Fewest", fewest(r), way(1, [2]int{0, 0}, [2]int{1, 1}, [2]int{2, 2}))
	expect(t, "Can", can(r), list(1, 2, 4|8))
	expect(t, "Sure", sure(r), list(0, 1, api.NoMark))
	expect(t, "Hides", hides(r), numbers(0, 4|8))
	expect(t, "Shift of 0", shift(r, 0), is(span(8, 12)))
	expect(t, "Shift of 2", shift(r, 2), is(span(6, 20)))
	expect(t, "Ask", ask(r), numbers(2, 1))
}

func TestFits(t *testing.T) {
	for _, x := range []struct {
		what        string
		left, right api.Mark
		shift       api.Span
		want        bool
	}{
		{"the same", mark(7, 7, 3, 3), mark(7, 7, 3, 3), span(0, 0), true},
		{"tones that just meet", mark(7, 7, 3, 5), mark(7, 7, 5, 9), span(0, 0), true},
		{"tones that just meet, turned round", mark(7, 7, 5, 9), mark(7, 7, 3, 5), span(0, 0), true},
		{"tones that just do not meet", mark(7, 7, 3, 4), mark(7, 7, 5, 9), span(0, 0), false},
		{"tones that just do not meet, turned round", mark(7, 7, 5, 9), mark(7, 7, 3, 4), span(0, 0), false},
		{"a tone within another one", mark(7, 7, 0, 1000), mark(7, 7, 5, 5), span(0, 0), true},
		{"the least shift", mark(15, 20, 0, 0), mark(1, 5, 0, 0), span(19, 30), true},
		{"below the least shift", mark(15, 20, 0, 0), mark(1, 5, 0, 0), span(20, 30), false},
		{"the greatest shift", mark(15, 20, 0, 0), mark(1, 5, 0, 0), span(-5, 10), true},
		{"above the greatest shift", mark(15, 20, 0, 0), mark(1, 5, 0, 0), span(-5, 9), false},
		{"a shift within", mark(15, 20, 0, 0), mark(1, 5, 0, 0), span(13, 13), true},
		{"a shift below 0", mark(1, 5, 0, 0), mark(15, 20, 0, 0), span(-30, -19), true},
		{"not turned round", mark(1, 5, 0, 0), mark(15, 20, 0, 0), span(10, 19), false},
		{"the greatest numbers", mark(65536, 65536, 1000, 1000), mark(0, 0, 1000, 1000), span(65536, 65536), true},
		{"the least numbers", mark(0, 0, 0, 0), mark(65536, 65536, 0, 0), span(-65536, -65536), true},
		{"neither", mark(0, 0, 0, 0), mark(9, 9, 9, 9), span(0, 0), false},
	} {
		// Rows without a way tell as much.
		for _, hidden := range []int{0, 2} {
			r := api.Rows{Left: []api.Mark{x.left}, Right: []api.Mark{x.right}, Shift: x.shift, Hidden: hidden}
			expect(t, x.what, fits(r, 0, 0), truly(x.want))
		}
	}
}

func TestCount(t *testing.T) {
	for _, x := range []struct {
		what string
		r    api.Rows
		want int
	}{
		{"no marks", api.Rows{}, 1},
		{"no marks, and all can be hidden", api.Rows{Hidden: 20}, 1},
		{"one that is hidden", alike(1, 0, 1), 1},
		{"one that is not", alike(1, 0, 0), 0},
		{"one of the right row that is hidden", alike(0, 1, 1), 1},
		{"one of the right row that is not", alike(0, 1, 0), 0},
		{"one pair", alike(1, 1, 0), 1},
		{"one pair, if one can be hidden", alike(1, 1, 1), 1},
		{"one pair, or none", alike(1, 1, 2), 2},
		{"two of three", alike(2, 3, 1), 3},
		{"two of three, or fewer", alike(2, 3, 3), 9},
		{"all hidden", alike(10, 10, 20), 184756},
		{"one not hidden at least", alike(10, 10, 19), 184755},
		{"nine pairs, or ten", alike(10, 10, 2), 101},
		{"ten pairs", alike(10, 10, 1), 1},
		{"ten of no pair", alike(10, 0, 10), 1},
		{"ten of no pair, nine hidden", alike(10, 0, 9), 0},
		{"pairs that cross", toned([]int{1, 2}, []int{2, 1}, 2), 2},
		{"pairs that cross, fewer hidden", toned([]int{1, 2}, []int{2, 1}, 1), 0},
		{"pairs that do not", toned([]int{1, 2}, []int{1, 2}, 0), 1},
		{"no mark in two pairs", toned([]int{1, 1}, []int{1}, 1), 2},
		{"hidden in both together", toned([]int{1, 2}, []int{1, 3}, 2), 1},
		{"fewer hidden in both together", toned([]int{1, 2}, []int{1, 3}, 1), 0},
	} {
		expect(t, x.what, count(x.r), number(x.want))
	}
}

// Marks are in the order in which they are told, wherever they stand.
func TestMarksInTheOrderOfTheRows(t *testing.T) {
	r := api.Rows{Left: []api.Mark{mark(9, 9, 1, 1), mark(0, 0, 2, 2)}, Right: []api.Mark{mark(9, 9, 1, 1), mark(0, 0, 2, 2)}}
	expect(t, "both turned round", fewest(r), way(0, [2]int{0, 0}, [2]int{1, 1}))
	r.Right[0], r.Right[1] = r.Right[1], r.Right[0]
	expect(t, "one turned round", count(r), number(0))
}

func TestFewest(t *testing.T) {
	for _, x := range []struct {
		what string
		r    api.Rows
		want outcome
	}{
		{"no marks", alike(0, 0, 20), way(0)},
		{"no pairs", alike(3, 0, 3), way(3)},
		{"none of the left row", alike(0, 4, 20), way(4)},
		{"marks that do not fit", toned([]int{1, 2}, []int{3}, 3), way(3)},
		{"fewer than can be", alike(2, 2, 4), way(0, [2]int{0, 0}, [2]int{1, 1})},
		{"the first right marks", alike(2, 4, 6), way(2, [2]int{0, 0}, [2]int{1, 1})},
		{"the first left marks", alike(4, 2, 6), way(2, [2]int{0, 0}, [2]int{1, 1})},
		{"a first pair that is not in it", toned([]int{1, 2, 3}, []int{2, 3, 1}, 6), way(2, [2]int{1, 0}, [2]int{2, 1})},
		{"a first mark with a later one", toned([]int{1, 2, 3}, []int{3, 1, 2}, 6), way(2, [2]int{0, 1}, [2]int{1, 2})},
		{"the left mark counts before the right one", toned([]int{1, 2}, []int{2, 1}, 4), way(2, [2]int{0, 1})},
		{"the second pair differs", toned([]int{1, 2, 3}, []int{1, 3, 2}, 6), way(2, [2]int{0, 0}, [2]int{1, 2})},
		{"ten", alike(10, 10, 20), way(0, [2]int{0, 0}, [2]int{1, 1}, [2]int{2, 2}, [2]int{3, 3}, [2]int{4, 4}, [2]int{5, 5}, [2]int{6, 6}, [2]int{7, 7}, [2]int{8, 8}, [2]int{9, 9})},
	} {
		expect(t, x.what, fewest(x.r), x.want)
	}
}

func TestCanAndSure(t *testing.T) {
	for _, x := range []struct {
		what      string
		r         api.Rows
		can, sure outcome
	}{
		{"no marks", alike(0, 2, 2), list(), list()},
		{"no pairs", alike(2, 0, 2), list(0, 0), list(-1, -1)},
		{"one pair that is sure", alike(1, 1, 1), list(1), list(0)},
		{"one that is not", alike(1, 1, 2), list(1), list(-1)},
		{"one of two", alike(1, 2, 1), list(3), list(-1)},
		{"a mark that fits, but in no way", toned([]int{1, 2, 3}, []int{2, 3, 1}, 3), list(0, 1, 2), list(-1, 0, 1)},
		{"all that fit, if more is hidden", toned([]int{1, 2, 3}, []int{2, 3, 1}, 6), list(4, 1, 2), list(-1, -1, -1)},
		{"alike, but in their order", alike(3, 3, 1), list(1, 2, 4), list(0, 1, 2)},
		{"alike, and some hidden", alike(3, 3, 2), list(3, 7, 6), list(-1, -1, -1)},
		{"sure between some that are not", toned([]int{1, 2, 1}, []int{1, 1, 2, 1, 1}, 2), list(3, 4, 24), list(-1, 2, -1)},
		{"the last bit", toned([]int{9}, []int{0, 1, 2, 3, 4, 5, 6, 7, 8, 9}, 9), list(512), list(9)},
	} {
		expect(t, "Can: "+x.what, can(x.r), x.can)
		expect(t, "Sure: "+x.what, sure(x.r), x.sure)
	}
}

func TestHides(t *testing.T) {
	for _, x := range []struct {
		what string
		r    api.Rows
		want outcome
	}{
		{"no marks", alike(0, 0, 0), numbers(0, 0)},
		{"one pair that is sure", alike(1, 1, 1), numbers(0, 0)},
		{"one that is not", alike(1, 1, 2), numbers(1, 1)},
		{"all of the left row", alike(10, 0, 10), numbers(1023, 0)},
		{"all of the right row", alike(0, 10, 10), numbers(0, 1023)},
		{"one of two", alike(1, 2, 1), numbers(0, 3)},
		{"always", toned([]int{1, 2}, []int{2, 3}, 2), numbers(1, 2)},
		{"both", toned([]int{1, 2}, []int{2, 1}, 2), numbers(3, 3)},
		{"all", alike(10, 10, 20), numbers(1023, 1023)},
	} {
		expect(t, x.what, hides(x.r), x.want)
	}
}

func TestShift(t *testing.T) {
	r := api.Rows{
		Left:  []api.Mark{mark(20, 25, 1, 1), mark(30, 30, 2, 3), mark(50, 51, 3, 3)},
		Right: []api.Mark{mark(12, 13, 1, 1), mark(21, 22, 2, 2), mark(26, 26, 2, 2), mark(40, 42, 3, 3)},
		Shift: span(-12, 10), Hidden: 7,
	}
	expect(t, "as far as it is in Shift", shift(r, 0), is(span(7, 10)))
	expect(t, "of all pairs", shift(r, 1), is(span(-12, 9)))
	expect(t, "the greater end of Shift", shift(r, 2), is(span(8, 10)))
	r.Hidden = 2
	expect(t, "of the pairs of all ways", shift(r, 1), is(span(4, 9)))
	r.Shift.Lo = 10
	expect(t, "one that fits nothing", shift(r, 1), failed(api.ErrNone))
	r.Hidden = 7
	expect(t, "one that fits nothing, but there is a way", shift(r, 1), failed(api.ErrNone))
	expect(t, "one number", shift(r, 0), is(span(10, 10)))
	crossed := toned([]int{1, 2, 3}, []int{2, 3, 1}, 3)
	expect(t, "one that fits, but in no way", shift(crossed, 0), failed(api.ErrNone))
	expect(t, "the shift 0", shift(crossed, 1), is(span(0, 0)))
	wide := api.Rows{Left: []api.Mark{mark(0, 65536, 0, 1000)}, Right: []api.Mark{mark(0, 65536, 0, 1000)}, Shift: span(-65536, 65536)}
	expect(t, "the widest", shift(wide, 0), is(span(-65536, 65536)))
}

func TestAsk(t *testing.T) {
	for _, x := range []struct {
		what string
		r    api.Rows
		want outcome
	}{
		{"no marks", alike(0, 0, 20), failed(api.ErrNone)},
		{"one way alone", alike(3, 3, 1), failed(api.ErrNone)},
		{"a pair, or none", alike(1, 1, 2), numbers(0, 1)},
		{"one of two", alike(1, 2, 1), numbers(0, 1)},
		{"of several the first one", alike(2, 3, 1), numbers(0, 2)},
		{"hidden is an answer, too", alike(2, 1, 1), numbers(0, 1)},
		{"hidden is the answer that leaves most", alike(2, 2, 4), numbers(0, 3)},
		{"as many with the first one", toned([]int{1, 2, 2}, []int{1, 2, 2}, 6), numbers(0, 6)},
		{"not the first mark", toned([]int{1, 2}, []int{1, 2, 2}, 1), numbers(1, 1)},
		{"the middle one of three", alike(3, 3, 2), numbers(1, 3)},
	} {
		expect(t, x.what, ask(x.r), x.want)
	}
}

// Each of the greatest rows is asked within a moment.
func TestGreatestRows(t *testing.T) {
	for hidden := range 21 {
		for name, got := range everything(alike(10, 10, hidden), 9, 9) {
			if got.failed != api.OK && !(name == "Ask" && hidden < 2) {
				t.Errorf("%s with %d hidden has the error %d", name, hidden, got.failed)
			}
		}
	}
}

// Rows that are not valid have ErrArg with each function, before any other error.
func TestRowsThatAreNotValid(t *testing.T) {
	for what, change := range badRows() {
		for _, hidden := range []int{0, 1} { // without a way, and with some
			r := sample()
			r.Hidden = hidden
			change(&r)
			for _, k := range []int{0, -1, 99} {
				for name, got := range everything(r, k, k) {
					expect(t, what+": "+name, got, failed(api.ErrArg))
				}
			}
		}
	}
}

func badRows() map[string]func(*api.Rows) {
	bad := map[string]func(*api.Rows){
		"11 marks of Left":  func(r *api.Rows) { r.Left = append(r.Left, make([]api.Mark, 8)...) },
		"11 marks of Right": func(r *api.Rows) { r.Right = append(r.Right, make([]api.Mark, 7)...) },
		"Hidden -1":         func(r *api.Rows) { r.Hidden = -1 },
		"Hidden 21":         func(r *api.Rows) { r.Hidden = 21 },
		"Hidden very great": func(r *api.Rows) { r.Hidden = math.MaxInt },
	}
	spans := func(least, greatest int) map[string]api.Span {
		return map[string]api.Span{
			"turned round": span(2, 1), "too little": span(least-1, 1), "too great": span(0, greatest+1),
			"below all": span(least-9, least-1), "above all": span(greatest+1, greatest+9), "wide": span(math.MinInt, math.MaxInt),
			"turned round and wide": span(math.MaxInt, math.MinInt),
		}
	}
	for what, s := range spans(0, 65536) {
		bad["At of Left "+what] = func(r *api.Rows) { r.Left[2].At = s }
		bad["At of Right "+what] = func(r *api.Rows) { r.Right[3].At = s }
		bad["At of the first mark "+what] = func(r *api.Rows) { r.Left[0].At = s }
	}
	for what, s := range spans(0, 1000) {
		bad["Tone of Left "+what] = func(r *api.Rows) { r.Left[2].Tone = s }
		bad["Tone of Right "+what] = func(r *api.Rows) { r.Right[3].Tone = s }
	}
	for what, s := range spans(-65536, 65536) {
		bad["Shift "+what] = func(r *api.Rows) { r.Shift = s }
	}
	return bad
}

// Rows whose numbers are all as great, or as little, as they can be are valid.
func TestRowsThatAreJustValid(t *testing.T) {
	most := make([]api.Mark, 10)
	for k := range most {
		most[k] = mark(0, 65536, 0, 1000)
	}
	great := make([]api.Mark, 10)
	for k := range great {
		great[k] = mark(65536, 65536, 1000, 1000)
	}
	for what, r := range map[string]api.Rows{
		"the widest":   {Left: most, Right: most, Shift: span(-65536, 65536), Hidden: 20},
		"the greatest": {Left: great, Right: most, Shift: span(65536, 65536), Hidden: 20},
		"the least":    {Left: most, Right: great, Shift: span(-65536, -65536), Hidden: 20},
	} {
		for name, got := range everything(r, 9, 9) {
			if got.failed != api.OK {
				t.Errorf("%s: %s has the error %d", what, name, got.failed)
			}
		}
		expect(t, what, count(r), number(184756))
	}
	expect(t, "no marks, and none hidden", count(api.Rows{}), number(1))
}

func TestNumbersOfMarks(t *testing.T) {
	none := sample()
	none.Hidden = 0
	for _, r := range []api.Rows{sample(), none} { // with ways, and without one
		for _, k := range []int{-1, 4, 10, math.MinInt, math.MaxInt} {
			expect(t, "Fits", fits(r, k, 0), failed(api.ErrRange))
			expect(t, "Fits", fits(r, 0, k), failed(api.ErrRange))
			expect(t, "Shift", shift(r, k), failed(api.ErrRange))
		}
		expect(t, "Fits of no left mark", fits(r, 3, 3), failed(api.ErrRange))
		expect(t, "Shift of no left mark", shift(r, 3), failed(api.ErrRange))
		expect(t, "Fits of the last marks", fits(r, 2, 3), truly(true))
	}
	expect(t, "Shift of no rows", shift(api.Rows{}, 0), failed(api.ErrRange))
	expect(t, "Fits of no rows", fits(api.Rows{}, 0, 0), failed(api.ErrRange))
}

func TestNoWay(t *testing.T) {
	r := sample()
	r.Hidden = 0
	for name, got := range everything(r, 0, 0) {
		switch name {
		case "Fits":
			expect(t, name, got, truly(true))
		case "Count":
			expect(t, name, got, number(0))
		default:
			expect(t, name, got, failed(api.ErrNone))
		}
	}
}

// A nil list and an empty one are the same.
func TestNilAndEmpty(t *testing.T) {
	p, q := alike(2, 0, 2), alike(0, 2, 2)
	p.Right, q.Left = nil, nil
	for name, got := range everything(p, 0, 0) {
		expect(t, name, got, everything(alike(2, 0, 2), 0, 0)[name])
	}
	for name, got := range everything(q, 0, 0) {
		expect(t, name, got, everything(alike(0, 2, 2), 0, 0)[name])
	}
}
