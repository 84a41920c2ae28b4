package pair_test

import (
	"math"
	"testing"

	"pairworks/api"
	"pairworks/pair"
)

func span(lo, hi int) api.Span { return api.Span{Lo: lo, Hi: hi} }

func place(x, y api.Span) api.Place { return api.Place{X: x, Y: y} }

// at returns a thing with just this span as its shift, and flat rows.
func at(lo, hi int) api.Thing {
	return api.Thing{Left: place(span(lo, hi), span(0, 0)), Right: place(span(0, 0), span(0, 0))}
}

// mark returns a landmark that is so far away.
func mark(far, lo, hi int) api.Thing {
	t := at(lo, hi)
	t.Far = far
	return t
}

// rows returns a thing with these rows.
func rows(t api.Thing, left, right api.Span) api.Thing {
	t.Left.Y, t.Right.Y = left, right
	return t
}

// plain returns a pair with powers from 10000 to 20000, and things from 2000 to 8000 away.
func plain(things ...api.Thing) api.Pair {
	return api.Pair{Focal: span(10000, 20000), Base: span(1, 1), Near: 2000, Far: 8000, Things: things}
}

// sample returns the pair of the chapter's examples.
func sample() api.Pair {
	return api.Pair{Focal: span(9000, 9000), Base: span(65, 66), Tilt: 5, Near: 2000, Far: 100000, Things: []api.Thing{
		{Left: place(span(100, 101), span(0, 1)), Right: place(span(-96, -95), span(0, 2)), Far: 3000},
		{Left: place(span(50, 50), span(10, 12)), Right: place(span(-10, -8), span(14, 15))},
		{Left: place(span(0, 2), span(0, 0)), Right: place(span(5, 6), span(0, 0))},
		{Left: place(span(400, 400), span(0, 0)), Right: place(span(0, 0), span(0, 0))},
		{Left: place(span(10, 10), span(0, 1)), Right: place(span(0, 0), span(10, 12))},
		{Left: place(span(0, 3), span(0, 0)), Right: place(span(0, 0), span(0, 0))},
	}}
}

// outcome is all results of a call.
type outcome struct {
	span   api.Span
	number int
	e      api.Errno
}

func shift(p api.Pair, k int) outcome {
	s, e := pair.Shift(p, k)
	return outcome{span: s, e: e}
}

func nearer(p api.Pair, a, b int) outcome {
	n, e := pair.Nearer(p, a, b)
	return outcome{number: n, e: e}
}

func power(p api.Pair) outcome {
	s, e := pair.Power(p)
	return outcome{span: s, e: e}
}

func stands(p api.Pair, far int) outcome {
	s, e := pair.Stands(p, far)
	return outcome{span: s, e: e}
}

func why(p api.Pair, k int) outcome {
	n, e := pair.Why(p, k)
	return outcome{number: n, e: e}
}

func distance(p api.Pair, k int) outcome {
	s, e := pair.Distance(p, k)
	return outcome{span: s, e: e}
}

func fewest(p api.Pair) outcome {
	n, s, e := pair.Fewest(p)
	return outcome{span: s, number: n, e: e}
}

func is(s api.Span) outcome { return outcome{span: s} }

func number(n int) outcome { return outcome{number: n} }

func failed(e api.Errno) outcome { return outcome{e: e} }

func expect(t *testing.T, what string, got, want outcome) {
	t.Helper()
	if got != want {
		t.Errorf("%s: %v, want %v", what, got, want)
	}
}

func TestExamples(t *testing.T) {
	p := sample()
	expect(t, "Shift of 0", shift(p, 0), is(span(195, 197)))
	expect(t, "Shift of 1", shift(p, 1), is(span(58, 60)))
	expect(t, "Shift of 2", shift(p, 2), is(span(-6, -3)))
	expect(t, "Nearer of 0 and 1", nearer(p, 0, 1), number(api.PairAlways))
	expect(t, "Nearer of 5 and 1", nearer(p, 5, 1), number(api.PairNever))
	expect(t, "Nearer of 4 and 4", nearer(p, 4, 4), number(api.PairNever))
	expect(t, "Power", power(p), is(span(585000, 593999)))
	expect(t, "Stands of 10000", stands(p, 10000), is(span(58, 59)))
	for k, want := range []int{0, 0, api.MovedBehind, api.MovedNear, api.MovedRows, api.MovedFar} {
		expect(t, "Why", why(p, k), number(want))
	}
	expect(t, "Distance of 0", distance(p, 0), is(span(3000, 3000)))
	expect(t, "Distance of 1", distance(p, 1), is(span(9591, 10241)))
	expect(t, "Distance of 2", distance(p, 2), failed(api.ErrRefuse))
	expect(t, "Fewest", fewest(p), outcome{span: span(585000, 593999), number: 60})
	p.Things = p.Things[1:]
	expect(t, "Power without the thing 0", power(p), is(span(585000, 594000)))
}

func TestShift(t *testing.T) {
	wide := api.Thing{Left: place(span(-4000, 4000), span(0, 0)), Right: place(span(-4000, 4000), span(0, 0))}
	expect(t, "the widest", shift(plain(wide), 0), is(span(-8000, 8000)))
	expect(t, "a landmark that cannot stand", shift(plain(mark(2000, 9, 11), mark(2000, 3, 3)), 0), is(span(9, 11)))
	expect(t, "rows are not looked at", shift(plain(rows(at(3, 4), span(0, 0), span(9, 9))), 0), is(span(3, 4)))
}

func TestNearer(t *testing.T) {
	for _, x := range []struct {
		a, b api.Thing
		want int
	}{
		{at(7, 8), at(4, 6), api.PairAlways},
		{at(6, 8), at(4, 6), api.PairPerhaps},
		{at(4, 6), at(4, 6), api.PairPerhaps},
		{at(1, 9), at(4, 6), api.PairPerhaps},
		{at(5, 5), at(1, 9), api.PairPerhaps},
		{at(3, 5), at(4, 6), api.PairPerhaps},
		{at(3, 5), at(5, 6), api.PairNever},
		{at(3, 4), at(5, 6), api.PairNever},
		{at(5, 5), at(5, 5), api.PairNever},
		{at(-3, -2), at(-9, -4), api.PairAlways},
		{mark(2000, 0, 0), mark(8000, 4, 4), api.PairNever},
	} {
		expect(t, "Nearer", nearer(plain(x.a, x.b), 0, 1), number(x.want))
	}
}

func TestPower(t *testing.T) {
	tilted := plain(rows(mark(4000, 3, 3), span(0, 1), span(4, 6)))
	tilted.Tilt = 3
	slanted := plain(rows(mark(4000, 3, 3), span(4, 6), span(0, 1)))
	slanted.Tilt = 2
	little := plain(rows(mark(2000, 0, 0), span(0, 0), span(1, 1)))
	little.Focal = span(1, 3)
	other := plain()
	other.Base = span(2, 3)
	for _, x := range []struct {
		what string
		p    api.Pair
		want outcome
	}{
		{"no thing", plain(), is(span(10000, 20000))},
		{"a base", other, is(span(20000, 60000))},
		{"strangers say nothing", plain(at(9, 9), at(-1, -1)), is(span(10000, 20000))},
		{"one landmark", plain(mark(4000, 3, 3)), is(span(12000, 15999))},
		{"a wide landmark", plain(mark(4000, 3, 4)), is(span(12000, 19999))},
		{"two landmarks", plain(mark(4000, 3, 3), mark(2000, 7, 7)), is(span(14000, 15999))},
		{"two landmarks, turned round", plain(mark(2000, 7, 7), mark(4000, 3, 3)), is(span(14000, 15999))},
		{"landmarks that just meet", plain(mark(4000, 3, 3), mark(5000, 3, 3), mark(3199, 4, 4)), is(span(15000, 15994))},
		{"landmarks that do not meet", plain(mark(4000, 3, 3), mark(2000, 8, 8)), failed(api.ErrNone)},
		{"the last power", plain(mark(4000, 5, 9)), is(span(20000, 20000))},
		{"beyond the last power", plain(mark(4001, 5, 9)), failed(api.ErrNone)},
		{"the first power", plain(mark(3334, 0, 2)), is(span(10000, 10001))},
		{"before the first power", plain(mark(3333, 0, 2)), failed(api.ErrNone)},
		{"a shift from below 0", plain(mark(8000, -3, 1)), is(span(10000, 15999))},
		{"a shift below 0", plain(mark(4000, -3, -1)), failed(api.ErrNone)},
		{"rows that are near enough", tilted, is(span(12000, 15999))},
		{"rows that are not", slanted, failed(api.ErrNone)},
		{"rows that are not, with the least power", little, failed(api.ErrNone)},
	} {
		expect(t, x.what, power(x.p), x.want)
	}
}

// A landmark whose shift is above MaxShift does not stand still, even if its distance explains it.
func TestMaxShiftOfLandmarks(t *testing.T) {
	p := plain(mark(2000, 1999, 2001))
	p.Focal, p.Base = span(2000, 2002), span(2000, 2000)
	expect(t, "Power at MaxShift", power(p), is(span(4000000, 4001999)))
	p.Things[0] = mark(2000, 2001, 2001)
	expect(t, "Power beyond MaxShift", power(p), failed(api.ErrNone))
}

func TestStands(t *testing.T) {
	expect(t, "rounded down", stands(plain(), 3000), is(span(3, 6)))
	expect(t, "Near", stands(plain(), 2000), is(span(5, 10)))
	expect(t, "Far", stands(plain(), 8000), is(span(1, 2)))
	expect(t, "with a landmark", stands(plain(mark(4000, 3, 3)), 4000), is(span(3, 3)))
	great := api.Pair{Focal: span(50000, 50000), Base: span(10000, 10000), Near: 2000, Far: 3000}
	expect(t, "above MaxShift", stands(great, 2000), is(span(250000, 250000)))
	far := plain()
	far.Far = api.MaxFar
	expect(t, "the farthest", stands(far, api.MaxFar), is(span(0, 0)))
}

func TestWhyAndDistance(t *testing.T) {
	great := func(things ...api.Thing) api.Pair {
		return api.Pair{Focal: span(50000, 50000), Base: span(10000, 10000), Near: 2000, Far: api.MaxFar, Things: things}
	}
	close := great(at(1, 1))
	close.Far = 2000
	for _, x := range []struct {
		what string
		p    api.Pair
		why  int
		want api.Span
	}{
		{"one shift", plain(at(4, 4)), 0, span(2001, 5000)},
		{"from Near", plain(at(5, 5)), 0, span(2000, 4000)},
		{"to Far", plain(at(1, 1)), 0, span(5001, 8000)},
		{"from Near to Far", plain(at(2, 4000)), 0, span(2000, 8000)},
		{"just at Near", plain(at(10, 11)), 0, span(2000, 2000)},
		{"just nearer", plain(at(11, 12)), api.MovedNear, span(0, 0)},
		{"0 or more", plain(at(0, 1)), 0, span(5001, 8000)},
		{"from below 0", plain(at(-9, 2)), 0, span(3334, 8000)},
		{"just farther away", plain(at(0, 0)), api.MovedFar, span(0, 0)},
		{"from below 0 to 0", plain(at(-1, 0)), api.MovedFar, span(0, 0)},
		{"below 0", plain(at(-9, -1)), api.MovedBehind, span(0, 0)},
		{"far away", great(at(0, 0)), 0, span(500000001, api.MaxFar)},
		{"at MaxShift", great(at(2000, 2000)), 0, span(249876, 250000)},
		{"around MaxShift", great(at(2000, 2001)), 0, span(249876, 250000)},
		{"above MaxShift", great(at(2001, 3000)), api.MovedNear, span(0, 0)},
		{"nothing is far", close, api.MovedFar, span(0, 0)},
		{"with a landmark", plain(at(4, 4), mark(4000, 3, 3)), 0, span(2401, 3999)},
		{"nearer with a landmark", plain(at(8, 8), mark(4000, 3, 3)), api.MovedNear, span(0, 0)},
		{"a landmark itself", plain(mark(4000, 3, 3), at(8, 8)), 0, span(4000, 4000)},
		{"a wide landmark itself", plain(mark(8000, 0, 2000)), 0, span(8000, 8000)},
	} {
		expect(t, x.what, why(x.p, 0), number(x.why))
		want := is(x.want)
		if x.why != 0 {
			want = failed(api.ErrRefuse)
		}
		expect(t, x.what, distance(x.p, 0), want)
	}
}

// A thing is nearer than Near, or farther away than Far, from one power on.
func TestEndsOfWhy(t *testing.T) {
	p := plain(at(5, 5))
	p.Focal = span(9000, 10000)
	expect(t, "as near as Near", why(p, 0), number(0))
	p.Focal = span(9000, 9999)
	expect(t, "nearer than Near", why(p, 0), number(api.MovedNear))
	p.Focal = span(47999, 49000)
	expect(t, "as far away as Far", why(p, 0), number(0))
	expect(t, "as far away as Far", distance(p, 0), is(span(8000, 8000)))
	p.Focal = span(48000, 49000)
	expect(t, "farther away than Far", why(p, 0), number(api.MovedFar))
}

func TestRows(t *testing.T) {
	p := plain(at(4, 4))
	p.Tilt = 5
	for _, x := range []struct {
		left, right api.Span
		why         int
	}{
		{span(0, 0), span(5, 5), 0},
		{span(0, 0), span(6, 9), api.MovedRows},
		{span(5, 5), span(0, 0), 0},
		{span(6, 9), span(0, 0), api.MovedRows},
		{span(-4, -1), span(4, 9), 0},
		{span(-4, -1), span(5, 9), api.MovedRows},
		{span(-4000, 4000), span(3, 3), 0},
	} {
		p.Things[0] = rows(p.Things[0], x.left, x.right)
		expect(t, "Why with rows", why(p, 0), number(x.why))
	}
}

// Of several reasons the first one is told.
func TestFirstReason(t *testing.T) {
	for _, x := range []struct {
		thing api.Thing
		want  int
	}{
		{rows(at(-5, -1), span(0, 0), span(1, 1)), api.MovedRows},
		{rows(at(2001, 2001), span(0, 0), span(1, 1)), api.MovedRows},
		{rows(at(0, 0), span(0, 0), span(1, 1)), api.MovedRows},
		{at(-5, -5), api.MovedBehind},
		{at(2001, 4000), api.MovedNear},
	} {
		expect(t, "Why", why(plain(x.thing), 0), number(x.want))
	}
}

func TestFewest(t *testing.T) {
	for _, x := range []struct {
		what  string
		p     api.Pair
		moved int
		power api.Span
	}{
		{"no thing", plain(), 0, span(10000, 20000)},
		{"one that stands", plain(at(1, 1)), 0, span(10000, 15999)},
		{"both stand", plain(at(1, 1), at(7, 7)), 0, span(14000, 15999)},
		{"the least number of two sets", plain(at(1, 1), at(9, 9)), 1, span(18000, 20000)},
		{"turned round", plain(at(9, 9), at(1, 1)), 1, span(10000, 15999)},
		{"the fewer ones", plain(at(1, 1), at(9, 9), at(1, 1)), 2, span(10000, 15999)},
		{"not the least number of all sets", plain(at(1, 1), at(1, 1), at(9, 9)), 4, span(10000, 15999)},
		{"with some that stand nowhere", plain(at(9, 9), at(0, 0), at(1, 1), at(-1, -1)), 11, span(10000, 15999)},
		{"one power", plain(at(1, 1), at(8, 8), at(10, 10), at(9, 9)), 1, span(20000, 20000)},
		{"with a landmark", plain(at(1, 1), at(9, 9), mark(4000, 3, 3)), 2, span(12000, 15999)},
		{"landmarks do not move", plain(mark(4000, 3, 3), at(9, 9), at(9, 9)), 6, span(12000, 15999)},
		{"in the middle of all powers", plain(at(0, 1), at(6, 6), at(-1, -1)), 4, span(12000, 15999)},
		{"rows", plain(rows(at(4, 4), span(0, 0), span(1, 1))), 1, span(10000, 20000)},
		{"all things", plain(at(-1, -1), at(-1, -1), at(-1, -1), at(-1, -1), at(-1, -1), at(-1, -1), at(-1, -1), at(-1, -1), at(-1, -1), at(-1, -1), at(-1, -1), at(-1, -1)), 4095, span(10000, 20000)},
	} {
		expect(t, x.what, fewest(x.p), outcome{number: x.moved, span: x.power})
	}
}

// everything calls each function, with numbers of things and a distance, and returns what it does.
func everything(p api.Pair, a, b, far int) map[string]outcome {
	return map[string]outcome{
		"Shift": shift(p, a), "Nearer": nearer(p, a, b), "Power": power(p), "Stands": stands(p, far),
		"Why": why(p, a), "Distance": distance(p, a), "Fewest": fewest(p),
	}
}

// Each pair that is not valid has ErrArg with each function, before any other error.
func TestPairsThatAreNotValid(t *testing.T) {
	for what, change := range badPairs() {
		p := sample()
		change(&p)
		for _, k := range []int{0, -1, 99} {
			for name, got := range everything(p, k, k, k) {
				expect(t, what+": "+name, got, failed(api.ErrArg))
			}
		}
	}
	// A landmark that cannot stand still makes no truth, but a pair that is not valid comes first.
	p := plain(mark(4000, 6, 9), mark(4000, 2, 1))
	for name, got := range everything(p, 0, 1, 3000) {
		expect(t, name, got, failed(api.ErrArg))
	}
}

func badPairs() map[string]func(*api.Pair) {
	bad := map[string]func(*api.Pair){
		"Tilt -1":           func(p *api.Pair) { p.Tilt = -1 },
		"Tilt 1001":         func(p *api.Pair) { p.Tilt = 1001 },
		"Near 1999":         func(p *api.Pair) { p.Near = 1999 },
		"Near above Far":    func(p *api.Pair) { p.Near, p.Things[0].Far = 100001, 0 },
		"Far below Near":    func(p *api.Pair) { p.Far, p.Things[0].Far = 1999, 0 },
		"Far above MaxFar":  func(p *api.Pair) { p.Far = api.MaxFar + 1 },
		"both above MaxFar": func(p *api.Pair) { p.Near, p.Far, p.Things[0].Far = api.MaxFar+1, api.MaxFar+1, 0 },
		"13 things":         func(p *api.Pair) { p.Things = append(p.Things, make([]api.Thing, 7)...) },
		"Far -1 of a thing": func(p *api.Pair) { p.Things[5].Far = -1 },
		"1 of a thing":      func(p *api.Pair) { p.Things[5].Far = 1 },
		"below Near":        func(p *api.Pair) { p.Things[5].Far = 1999 },
		"above Far":         func(p *api.Pair) { p.Things[5].Far = 100001 },
	}
	for what, s := range map[string]api.Span{"turned round": span(2, 1), "0": span(0, 9), "below 0": span(-9, 9), "too great": span(1, 50001), "wide": span(math.MinInt, math.MaxInt)} {
		bad["Focal "+what] = func(p *api.Pair) { p.Focal = s }
	}
	for what, s := range map[string]api.Span{"turned round": span(2, 1), "0": span(0, 9), "below 0": span(-9, 9), "too great": span(1, 10001), "wide": span(math.MinInt, math.MaxInt)} {
		bad["Base "+what] = func(p *api.Pair) { p.Base = s }
	}
	for what, s := range map[string]api.Span{"turned round": span(1, 0), "too little": span(-4001, 0), "too great": span(0, 4001), "below all": span(-5000, -4001), "wide": span(math.MinInt, math.MaxInt)} {
		bad["X of Left "+what] = func(p *api.Pair) { p.Things[5].Left.X = s }
		bad["Y of Left "+what] = func(p *api.Pair) { p.Things[5].Left.Y = s }
		bad["X of Right "+what] = func(p *api.Pair) { p.Things[5].Right.X = s }
		bad["Y of Right "+what] = func(p *api.Pair) { p.Things[5].Right.Y = s }
	}
	return bad
}

// A pair whose numbers are all as great, or as little, as they can be is valid.
func TestPairsThatAreJustValid(t *testing.T) {
	edge := place(span(-4000, 4000), span(-4000, 4000))
	most := make([]api.Thing, 12)
	for k := range most {
		most[k] = api.Thing{Left: edge, Right: edge, Far: api.MaxFar}
	}
	for what, p := range map[string]api.Pair{
		"the greatest":       {Focal: span(50000, 50000), Base: span(10000, 10000), Tilt: 1000, Near: api.MaxFar, Far: api.MaxFar, Things: most},
		"the least":          {Focal: span(1, 1), Base: span(1, 1), Near: 2000, Far: 2000, Things: make([]api.Thing, 12)},
		"landmark at Near":   plain(mark(2000, 0, 10)),
		"landmark at Far":    plain(mark(8000, 0, 10)),
		"the widest numbers": {Focal: span(1, 50000), Base: span(1, 10000), Tilt: 1000, Near: 2000, Far: api.MaxFar, Things: most},
	} {
		for name, got := range everything(p, 0, len(p.Things)-1, p.Near) {
			if got.e != api.OK {
				t.Errorf("%s: %s has the error %d", what, name, got.e)
			}
		}
	}
	little := api.Pair{Focal: span(1, 1), Base: span(1, 1), Near: 2000, Far: 2000, Things: make([]api.Thing, 12)}
	expect(t, "the least power", power(little), is(span(1, 1)))
	great := api.Pair{Focal: span(1, 50000), Base: span(1, 10000), Near: 2000, Far: 2000}
	expect(t, "the greatest power", power(great), is(span(1, 500000000)))
}

func TestNumbersOfThings(t *testing.T) {
	none := plain(mark(4000, 6, 9)) // a pair without a truth
	for _, p := range []api.Pair{plain(at(4, 4)), none} {
		for _, k := range []int{-1, 1, 12, math.MinInt, math.MaxInt} {
			expect(t, "Shift", shift(p, k), failed(api.ErrRange))
			expect(t, "Why", why(p, k), failed(api.ErrRange))
			expect(t, "Distance", distance(p, k), failed(api.ErrRange))
			expect(t, "Nearer", nearer(p, k, 0), failed(api.ErrRange))
			expect(t, "Nearer", nearer(p, 0, k), failed(api.ErrRange))
		}
		for _, far := range []int{-1, 0, 1999, 8001, math.MinInt, math.MaxInt} {
			expect(t, "Stands", stands(p, far), failed(api.ErrRange))
		}
	}
	expect(t, "Shift of no thing", shift(plain(), 0), failed(api.ErrRange))
}

func TestNoTruth(t *testing.T) {
	p := plain(mark(4000, 6, 9), at(4, 4), at(-1, -1))
	for k := range p.Things {
		expect(t, "Why", why(p, k), failed(api.ErrNone))
		expect(t, "Distance", distance(p, k), failed(api.ErrNone))
	}
	expect(t, "Power", power(p), failed(api.ErrNone))
	expect(t, "Stands", stands(p, 2000), failed(api.ErrNone))
	expect(t, "Fewest", fewest(p), failed(api.ErrNone))
	expect(t, "Shift", shift(p, 0), is(span(6, 9)))
	expect(t, "Nearer", nearer(p, 0, 1), number(api.PairAlways))
}

// A nil list and an empty one are the same.
func TestNoThings(t *testing.T) {
	p, q := plain(), plain()
	p.Things, q.Things = nil, []api.Thing{}
	for name, got := range everything(p, 0, 0, 2000) {
		expect(t, name, everything(q, 0, 0, 2000)[name], got)
	}
}
