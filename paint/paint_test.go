package paint_test

import (
	"fmt"
	"math"
	"reflect"
	"testing"

	"pairworks/api"
	"pairworks/paint"
)

func span(lo, hi int) api.Span { return api.Span{Lo: lo, Hi: hi} }

// mark returns a mark: from where to where it stands, and its tones.
func mark(a, b, c, d int) api.Mark { return api.Mark{At: span(a, b), Tone: span(c, d)} }

// sample returns the canvas C of the chapter's examples, changed.
func sample(changes ...func(*api.Canvas)) api.Canvas {
	c := api.Canvas{
		Rows: api.Rows{
			Left:  []api.Mark{mark(100, 102, 10, 12), mark(200, 202, 50, 55), mark(300, 301, 10, 13)},
			Right: []api.Mark{mark(90, 92, 11, 12), mark(185, 190, 52, 60), mark(280, 282, 9, 10), mark(292, 294, 12, 14)},
			Shift: span(5, 20),
		},
		Painted: 1,
	}
	for _, change := range changes {
		change(&c)
	}
	return c
}

// canvasD returns the canvas D of the chapter's examples.
func canvasD() api.Canvas { return sample(func(c *api.Canvas) { c.Rows.Hidden = 1 }) }

// canvasE returns the canvas E of the chapter's examples.
func canvasE() api.Canvas {
	return sample(func(c *api.Canvas) { c.Rows.Right[3].Tone = span(14, 14) })
}

// alike returns a canvas of marks that all fit.
func alike(left, right, hidden, painted int) api.Canvas {
	return api.Canvas{Rows: api.Rows{Left: make([]api.Mark, left), Right: make([]api.Mark, right), Hidden: hidden}, Painted: painted}
}

// toned returns a canvas of marks that fit if their tones are the same; each digit is a tone.
func toned(left, right string, hidden, painted int) api.Canvas {
	row := func(tones string) (marks []api.Mark) {
		for _, tone := range tones {
			marks = append(marks, mark(7, 7, int(tone), int(tone)))
		}
		return marks
	}
	return api.Canvas{Rows: api.Rows{Left: row(left), Right: row(right), Hidden: hidden}, Painted: painted}
}

// setOf returns the set of some marks.
func setOf(marks ...int) (set int) {
	for _, mark := range marks {
		set |= 1 << mark
	}
	return set
}

// outcome is all results of a call.
type outcome struct {
	is     bool
	number [3]int
	rows   api.Rows
	e      api.Errno
}

func yes(is bool) outcome { return outcome{is: is} }

func told(numbers ...int) outcome {
	var o outcome
	copy(o.number[:], numbers)
	return o
}

func failed(e api.Errno) outcome { return outcome{e: e} }

// rest returns what Rest tells: the rows of a canvas without these marks.
func rest(c api.Canvas, left, right int) outcome {
	r := c.Rows
	pick := func(row []api.Mark, gone int) (stays []api.Mark) {
		for k, m := range row {
			if gone>>k&1 == 0 {
				stays = append(stays, m)
			}
		}
		return stays
	}
	r.Left, r.Right = pick(r.Left, left), pick(r.Right, right)
	return outcome{rows: r}
}

func fits(c api.Canvas, left, right int) outcome {
	is, e := paint.Fits(c, left, right)
	return outcome{is: is, e: e}
}

func cases(c api.Canvas) outcome {
	n, e := paint.Cases(c)
	return outcome{number: [3]int{n}, e: e}
}

func sides(c api.Canvas) outcome {
	n, e := paint.Sides(c)
	return outcome{number: [3]int{n}, e: e}
}

func fewest(c api.Canvas) outcome {
	left, right, e := paint.Fewest(c)
	return outcome{number: [3]int{left, right}, e: e}
}

func can(c api.Canvas) outcome {
	left, right, e := paint.Can(c)
	return outcome{number: [3]int{left, right}, e: e}
}

func sure(c api.Canvas) outcome {
	left, right, e := paint.Sure(c)
	return outcome{number: [3]int{left, right}, e: e}
}

func lens(c api.Canvas) outcome {
	side, mark, left, e := paint.Lens(c)
	return outcome{number: [3]int{side, mark, left}, e: e}
}

func whatIsLeft(c api.Canvas) outcome {
	r, e := paint.Rest(c)
	// A nil list and an empty one are the same value.
	r.Left, r.Right = append([]api.Mark(nil), r.Left...), append([]api.Mark(nil), r.Right...)
	return outcome{rows: r, e: e}
}

// everything returns the results of all functions.
func everything(c api.Canvas, left, right int) map[string]outcome {
	return map[string]outcome{
		"Fits": fits(c, left, right), "Cases": cases(c), "Sides": sides(c), "Fewest": fewest(c),
		"Can": can(c), "Sure": sure(c), "Lens": lens(c), "Rest": whatIsLeft(c),
	}
}

func expect(t *testing.T, what string, got, want any) {
	t.Helper()
	if !reflect.DeepEqual(got, want) {
		t.Errorf("%s: got %+v, want %+v", what, got, want)
	}
}

func TestExamples(t *testing.T) {
	c, d, e := sample(), canvasD(), canvasE()
	expect(t, "Fits of C: none, 2", fits(c, 0, setOf(2)), yes(true))
	expect(t, "Fits of C: 1, none", fits(c, setOf(1), 0), yes(false))
	expect(t, "Fits of D: none, none", fits(d, 0, 0), yes(true))
	expect(t, "Cases of C", cases(c), told(2))
	expect(t, "Cases of D", cases(d), told(3))
	expect(t, "Cases of E", cases(e), told(1))
	expect(t, "Sides of C", sides(c), told(4))
	expect(t, "Sides of D", sides(d), told(5))
	expect(t, "Fewest of C", fewest(c), told(0, setOf(2)))
	expect(t, "Fewest of D", fewest(d), told(0, 0))
	expect(t, "Can of C", can(c), told(0, setOf(2, 3)))
	expect(t, "Sure of C", sure(c), told(0, 0))
	expect(t, "Sure of E", sure(e), told(0, setOf(3)))
	expect(t, "Lens of C", lens(c), told(4, 2, 1))
	expect(t, "Lens of E", lens(e), failed(api.ErrNone))
	expect(t, "Rest of E", whatIsLeft(e), rest(e, 0, setOf(3)))
}

func TestFits(t *testing.T) {
	for _, x := range []struct {
		what        string
		c           api.Canvas
		left, right int
		want        bool
	}{
		{"none of no marks", alike(0, 0, 0, 0), 0, 0, true},
		{"none, and there is a way", toned("123", "123", 0, 0), 0, 0, true},
		{"none, and there is no way", toned("123", "12", 0, 3), 0, 0, false},
		{"none, and some are hidden", toned("123", "12", 1, 3), 0, 0, true},
		{"what has no counterpart", toned("123", "12", 0, 1), setOf(2), 0, true},
		{"what has none in the left row", toned("23", "123", 0, 1), 0, setOf(0), true},
		{"what has a counterpart", toned("123", "12", 0, 1), setOf(1), 0, false},
		{"what has one, and one without", toned("123", "12", 0, 2), setOf(1, 2), 0, false},
		{"what has one, and one without, but one is hidden", toned("123", "12", 1, 2), setOf(1, 2), 0, true},
		{"two", toned("1232", "12", 0, 2), setOf(2, 3), 0, true},
		{"two others", toned("1232", "12", 0, 2), setOf(1, 2), 0, true},
		{"too few are painted", toned("1232", "12", 0, 2), setOf(2), 0, false},
		{"three", toned("91929", "12", 0, 3), setOf(0, 2, 4), 0, true},
		{"three, but two can be", toned("91929", "12", 0, 2), setOf(0, 2, 4), 0, false},
		{"three of the right row", toned("12", "91929", 0, 3), 0, setOf(0, 2, 4), true},
		{"three of the right row, but two can be", toned("12", "91929", 0, 2), 0, setOf(0, 2, 4), false},
		{"one of each row", toned("13", "12", 0, 3), setOf(1), setOf(1), false},
		{"one of each row, and all can be hidden", alike(2, 2, 4, 3), setOf(1), setOf(1), false},
		{"four", alike(4, 0, 0, 3), setOf(0, 1, 2, 3), 0, false},
		{"all marks", alike(3, 0, 0, 3), setOf(0, 1, 2), 0, true},
		{"more than must be", alike(3, 0, 20, 3), setOf(0, 1, 2), 0, true},
		{"one, but none can be", alike(3, 0, 20, 0), setOf(0), 0, false},
		{"the last marks of the longest row", alike(10, 7, 0, 3), setOf(7, 8, 9), 0, true},
		{"all marks of the longest row", alike(10, 0, 20, 3), 1023, 0, false},
		{"marks of both longest rows", alike(10, 10, 20, 3), 1023, 1023, false},
		{"marks that cross: one of them", toned("12", "21", 1, 1), setOf(0), 0, true},
		{"marks that cross, and none is hidden", toned("12", "21", 0, 1), setOf(0), 0, false},
	} {
		expect(t, x.what, fits(x.c, x.left, x.right), yes(x.want))
	}
	// It is asked about the marks that are left in their order, with the same Shift.
	for _, x := range []struct {
		shift       api.Span
		left, right int
		want        bool
	}{{span(5, 20), 0, setOf(3), true}, {span(5, 19), 0, setOf(3), true}, {span(5, 17), 0, setOf(3), false}, {span(5, 17), 0, setOf(2), true}, {span(5, 7), 0, setOf(2), false}} {
		c := sample(func(c *api.Canvas) { c.Rows.Shift = x.shift })
		expect(t, fmt.Sprint("with the shift ", x.shift), fits(c, x.left, x.right), yes(x.want))
	}
}

// All that is told of some canvases: how many cases there are, of which sides, the first one, what is in some case and in each one, and where it is best to look.
func TestCanvases(t *testing.T) {
	const none, left, right = api.PaintNone, api.PaintLeft, api.PaintRight
	for _, x := range []struct {
		what              string
		c                 api.Canvas
		cases, sides      int
		fewest, can, sure [2]int
		lens              outcome
	}{
		{"no marks", alike(0, 0, 0, 0), 1, none, [2]int{}, [2]int{}, [2]int{}, failed(api.ErrNone)},
		{"no marks, and all can be", alike(0, 0, 20, 3), 1, none, [2]int{}, [2]int{}, [2]int{}, failed(api.ErrNone)},
		{"nothing can be painted", toned("12", "12", 0, 0), 1, none, [2]int{}, [2]int{}, [2]int{}, failed(api.ErrNone)},
		{"nothing is painted", toned("12", "12", 0, 3), 1, none, [2]int{}, [2]int{}, [2]int{}, failed(api.ErrNone)},
		{"one of Left", toned("123", "12", 0, 1), 1, left, [2]int{4, 0}, [2]int{4, 0}, [2]int{4, 0}, failed(api.ErrNone)},
		{"one of Left, though more can be", toned("123", "12", 0, 3), 1, left, [2]int{4, 0}, [2]int{4, 0}, [2]int{4, 0}, failed(api.ErrNone)},
		{"one of Right", toned("12", "312", 0, 1), 1, right, [2]int{0, 1}, [2]int{0, 1}, [2]int{0, 1}, failed(api.ErrNone)},
		{"either of two", toned("11", "1", 0, 1), 2, left, [2]int{1, 0}, [2]int{3, 0}, [2]int{0, 0}, told(left, 0, 1)},
		{"either of two of Right", toned("1", "11", 0, 1), 2, right, [2]int{0, 1}, [2]int{0, 3}, [2]int{0, 0}, told(right, 0, 1)},
		{"one, and either of two", toned("1314", "14", 0, 2), 2, left, [2]int{3, 0}, [2]int{7, 0}, [2]int{2, 0}, told(left, 0, 1)},
		{"either side", toned("12", "13", 1, 1), 2, left | right, [2]int{2, 0}, [2]int{2, 2}, [2]int{0, 0}, told(left, 1, 1)},
		{"neither side, or either", toned("12", "13", 2, 1), 3, none | left | right, [2]int{0, 0}, [2]int{2, 2}, [2]int{0, 0}, told(left, 1, 2)},
		{"none, or one of Left", toned("123", "12", 1, 1), 2, none | left, [2]int{0, 0}, [2]int{4, 0}, [2]int{0, 0}, told(left, 2, 1)},
		{"all of the longest rows", alike(10, 10, 20, 3), 351, none | left | right, [2]int{0, 0}, [2]int{1023, 1023}, [2]int{0, 0}, told(left, 0, 305)},
		{"three of ten", alike(10, 7, 0, 3), 120, left, [2]int{7, 0}, [2]int{1023, 0}, [2]int{0, 0}, told(left, 0, 84)},
		{"three of ten of Right", alike(7, 10, 0, 3), 120, right, [2]int{0, 7}, [2]int{0, 1023}, [2]int{0, 0}, told(right, 0, 84)},
		{"all that there are", alike(3, 0, 0, 3), 1, left, [2]int{7, 0}, [2]int{7, 0}, [2]int{7, 0}, failed(api.ErrNone)},
		{"all that there are of Right", alike(0, 3, 0, 3), 1, right, [2]int{0, 7}, [2]int{0, 7}, [2]int{0, 7}, failed(api.ErrNone)},
		{"one surely, and two of three others", toned("1211", "31", 1, 3), 3, left, [2]int{7, 0}, [2]int{15, 0}, [2]int{2, 0}, told(left, 0, 2)},
		{"two surely, and one of two others", toned("2", "1322", 0, 3), 2, right, [2]int{0, 7}, [2]int{0, 15}, [2]int{0, 3}, told(right, 2, 1)},
		{"the best mark is not the first one", toned("123", "11", 2, 3), 6, left | right, [2]int{2, 0}, [2]int{7, 3}, [2]int{0, 0}, told(left, 1, 3)},
		{"the best mark is the last one of Right", toned("132", "1221", 2, 2), 6, left | right, [2]int{2, 0}, [2]int{2, 14}, [2]int{0, 0}, told(right, 3, 3)},
		{"the last mark alone", toned("0123456789", "012345678", 0, 1), 1, left, [2]int{512, 0}, [2]int{512, 0}, [2]int{512, 0}, failed(api.ErrNone)},
	} {
		expect(t, "Cases: "+x.what, cases(x.c), told(x.cases))
		expect(t, "Sides: "+x.what, sides(x.c), told(x.sides))
		expect(t, "Fewest: "+x.what, fewest(x.c), told(x.fewest[:]...))
		expect(t, "Can: "+x.what, can(x.c), told(x.can[:]...))
		expect(t, "Sure: "+x.what, sure(x.c), told(x.sure[:]...))
		expect(t, "Lens: "+x.what, lens(x.c), x.lens)
		expect(t, "Rest: "+x.what, whatIsLeft(x.c), rest(x.c, x.sure[0], x.sure[1]))
	}
}

// Canvases that are not valid have ErrArg with each function, before any other error.
func TestCanvasesThatAreNotValid(t *testing.T) {
	for what, change := range wrongs() {
		for _, c := range []api.Canvas{sample(), canvasD(), sample(func(c *api.Canvas) { c.Painted = 0 })} { // with cases, and without
			change(&c)
			for _, marks := range []int{0, -1, 1 << 20} {
				for name, got := range everything(c, marks, marks) {
					expect(t, what+": "+name, got, failed(api.ErrArg))
				}
			}
		}
	}
}

func wrongs() map[string]func(*api.Canvas) {
	wrong := map[string]func(*api.Canvas){
		"Painted -1":         func(c *api.Canvas) { c.Painted = -1 },
		"Painted 4":          func(c *api.Canvas) { c.Painted = 4 },
		"Painted very small": func(c *api.Canvas) { c.Painted = math.MinInt },
		"Painted very great": func(c *api.Canvas) { c.Painted = math.MaxInt },
		"Hidden -1":          func(c *api.Canvas) { c.Rows.Hidden = -1 },
		"Hidden 21":          func(c *api.Canvas) { c.Rows.Hidden = 21 },
		"11 marks of Left":   func(c *api.Canvas) { c.Rows.Left = make([]api.Mark, 11) },
		"11 marks of Right":  func(c *api.Canvas) { c.Rows.Right = make([]api.Mark, 11) },
		"many marks":         func(c *api.Canvas) { c.Rows.Left = make([]api.Mark, 99) },
	}
	spans := func(least, greatest int) map[string]api.Span {
		return map[string]api.Span{"turned round": span(2, 1), "too little": span(least-1, 1), "too great": span(0, greatest+1), "wide": span(math.MinInt, math.MaxInt)}
	}
	for what, s := range spans(0, api.MaxAt) {
		wrong["At of Left "+what] = func(c *api.Canvas) { c.Rows.Left[2].At = s }
		wrong["At of Right "+what] = func(c *api.Canvas) { c.Rows.Right[0].At = s }
	}
	for what, s := range spans(0, api.MaxTone) {
		wrong["Tone of Left "+what] = func(c *api.Canvas) { c.Rows.Left[0].Tone = s }
		wrong["Tone of Right "+what] = func(c *api.Canvas) { c.Rows.Right[3].Tone = s }
	}
	for what, s := range spans(-api.MaxAt, api.MaxAt) {
		wrong["Shift "+what] = func(c *api.Canvas) { c.Rows.Shift = s }
	}
	return wrong
}

// A canvas whose numbers are all as great as they can be is valid.
func TestCanvasesThatAreJustValid(t *testing.T) {
	most := make([]api.Mark, 10)
	for k := range most {
		most[k] = mark(0, 65536, 0, 1000)
	}
	c := api.Canvas{Rows: api.Rows{Left: most, Right: most, Shift: span(-65536, 65536), Hidden: 20}, Painted: 3}
	for name, got := range everything(c, 0, 7) {
		expect(t, name+" has no error", got.e, api.OK)
	}
	expect(t, "Cases", cases(c), told(351))
}

// Sets have no other bits than those of marks, also if they cannot be a case for another reason.
func TestSetsOfNoMarks(t *testing.T) {
	none := sample(func(c *api.Canvas) { c.Painted = 0 })
	for _, c := range []api.Canvas{sample(), canvasD(), none} {
		for _, other := range []int{0, 1, 7} {
			for _, left := range []int{8, 9, 15, 512, 1 << 40, -1, math.MinInt, math.MaxInt} {
				expect(t, fmt.Sprint("Fits of Left ", left), fits(c, left, other), failed(api.ErrRange))
			}
			for _, right := range []int{16, 17, 31, 512, 1 << 40, -1, math.MinInt, math.MaxInt} {
				expect(t, fmt.Sprint("Fits of Right ", right), fits(c, other, right), failed(api.ErrRange))
			}
		}
		expect(t, "Fits of the last mark of Left", fits(c, 4, 0).e, api.OK)
		expect(t, "Fits of the last mark of Right", fits(c, 0, 8).e, api.OK)
	}
	expect(t, "Fits of no marks", fits(alike(0, 0, 0, 3), 1, 0), failed(api.ErrRange))
	expect(t, "Fits of no marks of Right", fits(alike(10, 0, 10, 3), 1, 1), failed(api.ErrRange))
	expect(t, "Fits of too many bits", fits(alike(10, 10, 20, 3), 1024, 0), failed(api.ErrRange))
	expect(t, "Fits of too many bits of Right", fits(alike(10, 10, 20, 3), 0, 1024), failed(api.ErrRange))
}

// Without a case each function but Fits and Cases returns ErrNone.
func TestNoCase(t *testing.T) {
	for what, c := range map[string]api.Canvas{
		"nothing can be painted":             sample(func(c *api.Canvas) { c.Painted = 0 }),
		"both sides must have been painted":  toned("12", "13", 0, 3),
		"more must have been painted":        alike(4, 0, 0, 3),
		"more of Right must have been":       alike(0, 4, 0, 3),
		"more must have been, or be hidden":  alike(10, 0, 6, 3),
		"nothing fits":                       toned("111", "222", 2, 3),
		"marks that cross":                   toned("12", "21", 0, 1),
		"all that were painted are too many": toned("1234", "5", 1, 3),
	} {
		for name, got := range everything(c, 0, 0) {
			switch name {
			case "Fits":
				expect(t, what+": "+name, got, yes(false))
			case "Cases":
				expect(t, what+": "+name, got, told(0))
			default:
				expect(t, what+": "+name, got, failed(api.ErrNone))
			}
		}
	}
}

// A nil list and an empty one are the same value.
func TestNilAndEmpty(t *testing.T) {
	for _, hidden := range []int{0, 1, 2} {
		c, d := alike(2, 0, hidden, 1), alike(0, 2, hidden, 1)
		c.Rows.Right, d.Rows.Left = nil, nil
		for name, want := range everything(alike(2, 0, hidden, 1), 1, 0) {
			expect(t, name, everything(c, 1, 0)[name], want)
		}
		for name, want := range everything(alike(0, 2, hidden, 1), 0, 1) {
			expect(t, name, everything(d, 0, 1)[name], want)
		}
	}
}
