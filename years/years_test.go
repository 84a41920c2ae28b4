package years_test

import (
	"testing"

	"pairworks/api"
	"pairworks/years"
)

func span(lo, hi int) api.Span { return api.Span{Lo: lo, Hi: hi} }

func place(x, y api.Span) api.Place { return api.Place{X: x, Y: y} }

// at returns a thing with these shifts, and these places above the middle.
func at(shift, y api.Span) api.Thing {
	return api.Thing{Left: place(shift, y), Right: place(span(0, 0), y)}
}

// mark returns a landmark that is so far away, at these places above the middle.
func mark(far int, y api.Span) api.Thing {
	t := at(span(0, api.MaxShift), y)
	t.Far = far
	return t
}

// set returns a set, by bits.
func set(list ...int) int {
	all := 0
	for _, k := range list {
		all |= 1 << k
	}
	return all
}

// rocks returns a pair of which just landmarks are told, so that each of their distances is known.
func rocks(list ...api.Thing) api.Pair {
	return api.Pair{Focal: span(9, 9), Base: span(1000, 1000), Near: 2000, Far: 100000, Things: list}
}

// flat returns a pair with landmarks in the middle that are so far away; 0: a thing that is not seen.
func flat(distances ...int) api.Pair {
	var list []api.Thing
	for _, far := range distances {
		if far == 0 {
			list = append(list, at(span(-1, -1), span(0, 0)))
			continue
		}
		list = append(list, mark(far, span(0, 0)))
	}
	return rocks(list...)
}

// between returns a glacier of two pairs, 100 days one after the other.
func between(first, second api.Pair) api.Glacier {
	return api.Glacier{First: first, Second: second, FirstDay: 100, SecondDay: 200}
}

// change changes a glacier.
type change func(g *api.Glacier)

func changed(g api.Glacier, changes ...change) api.Glacier {
	for _, f := range changes {
		f(&g)
	}
	return g
}

func days(first, second int) change {
	return func(g *api.Glacier) { g.FirstDay, g.SecondDay = first, second }
}

// example returns the pair of the chapters' examples, with these places of the thing 1 in the left picture.
func example(x api.Span) api.Pair {
	return api.Pair{Focal: span(9000, 9000), Base: span(65, 66), Tilt: 5, Near: 2000, Far: 100000, Things: []api.Thing{
		{Left: place(span(100, 101), span(0, 1)), Right: place(span(-96, -95), span(0, 2)), Far: 3000},
		{Left: place(x, span(10, 12)), Right: place(span(-10, -8), span(14, 15))},
		{Left: place(span(0, 2), span(0, 0)), Right: place(span(5, 6), span(0, 0))},
		{Left: place(span(400, 400), span(0, 0)), Right: place(span(0, 0), span(0, 0))},
		{Left: place(span(10, 10), span(0, 1)), Right: place(span(0, 0), span(10, 12))},
		{Left: place(span(0, 3), span(0, 0)), Right: place(span(0, 0), span(0, 0))},
	}}
}

// sample returns the glacier of the chapter's examples, changed.
func sample(changes ...change) api.Glacier {
	return changed(between(example(span(50, 50)), example(span(60, 60))), changes...)
}

// untrue makes a pair one without a truth: what is said of its landmarks cannot be.
func untrue(p *api.Pair) {
	p.Things = append([]api.Thing{}, p.Things...)
	p.Things[0] = at(span(-2, -1), span(0, 0))
	p.Things[0].Far = p.Near
}

// outcome is all results of a call.
type outcome struct {
	spans   [2]api.Span
	numbers [2]int
	e       api.Errno
}

func moved(g api.Glacier, k int) outcome {
	s, e := years.Moved(g, k)
	return outcome{spans: [2]api.Span{s}, e: e}
}

func heights(g api.Glacier, k int) outcome {
	first, second, e := years.Heights(g, k)
	return outcome{spans: [2]api.Span{first, second}, e: e}
}

func sank(g api.Glacier, k int) outcome {
	s, e := years.Sank(g, k)
	return outcome{spans: [2]api.Span{s}, e: e}
}

func rate(g api.Glacier, k int) outcome {
	s, e := years.Rate(g, k)
	return outcome{spans: [2]api.Span{s}, e: e}
}

func stays(g api.Glacier) outcome {
	surely, can, e := years.Stays(g)
	return outcome{numbers: [2]int{surely, can}, e: e}
}

func fastest(g api.Glacier) outcome {
	n, e := years.Fastest(g)
	return outcome{numbers: [2]int{n}, e: e}
}

func alike(g api.Glacier, even int) outcome {
	n, e := years.Alike(g, even)
	return outcome{numbers: [2]int{n}, e: e}
}

func arrives(g api.Glacier, k, far int) outcome {
	first, last, e := years.Arrives(g, k, far)
	return outcome{numbers: [2]int{first, last}, e: e}
}

// everything calls each function, and returns what it does.
func everything(g api.Glacier, thing, even, far int) map[string]outcome {
	return map[string]outcome{
		"Moved": moved(g, thing), "Heights": heights(g, thing), "Sank": sank(g, thing), "Rate": rate(g, thing),
		"Stays": stays(g), "Fastest": fastest(g), "Alike": alike(g, even), "Arrives": arrives(g, thing, far),
	}
}

// withThing is the functions that are asked about one thing.
func withThing(name string) bool { return name != "Stays" && name != "Fastest" && name != "Alike" }

func is(list ...api.Span) (o outcome) {
	copy(o.spans[:], list)
	return o
}

func number(list ...int) (o outcome) {
	copy(o.numbers[:], list)
	return o
}

func failed(e api.Errno) outcome { return outcome{e: e} }

func expect(t *testing.T, what string, got, want outcome) {
	t.Helper()
	if got != want {
		t.Errorf("%s: got %v, want %v", what, got, want)
	}
}

func TestExamples(t *testing.T) {
	g := sample()
	expect(t, "Moved of 1", moved(g, 1), is(span(-2001, -856)))
	expect(t, "Moved of 0", moved(g, 0), is(span(0, 0)))
	expect(t, "Moved of 2", moved(g, 2), failed(api.ErrRefuse))
	expect(t, "Heights of 1", heights(g, 1), is(span(10, 13), span(9, 11)))
	expect(t, "Sank of 1", sank(g, 1), is(span(-1, 4)))
	expect(t, "Rate of 1", rate(g, 1), is(span(-7304, -3124)))
	expect(t, "Stays", stays(g), number(set(0), set(0)))
	expect(t, "Fastest", fastest(g), number(set(1)))
	expect(t, "Alike within 0", alike(g, 0), number(set(0)))
	expect(t, "Alike within 900", alike(g, 900), number(set(0, 1)))
	expect(t, "Arrives of 1 at 8000", arrives(g, 1, 8000), number(212, 286))
	expect(t, "Arrives of 1 at 9000", arrives(g, 1, 9000), number(200, 200))
	expect(t, "Arrives of 0 at 2999", arrives(g, 0, 2999), failed(api.ErrNone))
}

// Of the power 9000 the shift 4 tells that a thing is from 2000 to 2250 away, and the shift 3 from 2251 to 3000.
func near() api.Thing { return at(span(4, 4), span(0, 0)) }
func far() api.Thing  { return at(span(3, 3), span(0, 0)) }

// risen returns a thing with these places above the middle.
func risen(t api.Thing, y api.Span) api.Thing {
	t.Left.Y, t.Right.Y = y, y
	return t
}

func TestMoved(t *testing.T) {
	rock := func(far int) api.Thing { return mark(far, span(0, 0)) }
	for _, x := range []struct {
		what          string
		first, second api.Thing
		want          outcome
	}{
		{"farther away", near(), far(), is(span(1, 1000))},
		{"nearer", far(), near(), is(span(-1000, -1))},
		{"about as far away", near(), near(), is(span(-250, 250))},
		{"a landmark that came nearer", rock(5000), rock(4000), is(span(-1000, -1000))},
		{"a landmark that went away", rock(5000), rock(90000), is(span(85000, 85000))},
		{"a landmark in one pair", rock(2100), near(), is(span(-100, 150))},
		{"not seen in the first pair", at(span(-2, -1), span(0, 0)), near(), failed(api.ErrRefuse)},
		{"not seen in the second pair", near(), at(span(-2, -1), span(0, 0)), failed(api.ErrRefuse)},
		{"not seen at all", at(span(-2, -1), span(0, 0)), at(span(-2, -1), span(0, 0)), failed(api.ErrRefuse)},
	} {
		expect(t, x.what, moved(between(rocks(near(), x.first), rocks(far(), x.second)), 1), x.want)
	}
}

// widest returns a pair with the widest spans, and a landmark that is as far away as can be.
func widest() api.Pair {
	return api.Pair{
		Focal: span(1, api.MaxFocal), Base: span(1, api.MaxBase), Near: api.MaxShift, Far: api.MaxFar,
		Things: []api.Thing{mark(api.MaxFar, span(-api.MaxPlate, api.MaxPlate)), at(span(0, 4000), span(-api.MaxPlate, api.MaxPlate))},
	}
}

func TestHeights(t *testing.T) {
	tilted := mark(2000, span(7, 8))
	tilted.Right.Y = span(-3, -2)
	for _, x := range []struct {
		what  string
		thing api.Thing
		focal api.Span
		want  api.Span
	}{
		{"in the middle", mark(2000, span(0, 0)), span(9, 9), span(0, 0)},
		{"above the camera", mark(2000, span(7, 7)), span(9, 9), span(1555, 1555)},
		{"below the camera", mark(2000, span(-7, -7)), span(9, 9), span(-1556, -1556)},
		{"just above", mark(2000, span(1, 1)), span(2000, 2001), span(0, 1)},
		{"just below", mark(2000, span(-1, -1)), span(2000, 2001), span(-1, -1)},
		{"surely above", at(span(4, 4), span(1, 2)), span(9, 10), span(200, 555)},
		{"surely below", at(span(4, 4), span(-2, -1)), span(9, 10), span(-556, -200)},
		{"above or below", at(span(4, 4), span(-1, 2)), span(9, 10), span(-278, 555)},
		{"the row of the right picture is not looked at", tilted, span(9, 9), span(1555, 1777)},
	} {
		p := rocks(x.thing)
		p.Focal, p.Tilt = x.focal, 20
		expect(t, x.what, heights(between(p, flat(2000)), 0), is(x.want, span(0, 0)))
		expect(t, x.what+" in the second pair", heights(between(flat(2000), p), 0), is(span(0, 0), x.want))
	}
	g, high := between(widest(), widest()), api.MaxPlate*api.MaxFar
	expect(t, "the widest", heights(g, 0), is(span(-high, high), span(-high, high)))
	expect(t, "not seen in the first pair", heights(between(flat(0, 2000), flat(2000, 0)), 0), failed(api.ErrRefuse))
	expect(t, "not seen in the second pair", heights(between(flat(0, 2000), flat(2000, 0)), 1), failed(api.ErrRefuse))
}

func TestSank(t *testing.T) {
	for _, x := range []struct {
		what          string
		first, second api.Thing
		want          outcome
	}{
		{"sank", mark(2000, span(9, 9)), mark(2000, span(7, 7)), is(span(2000-1555, 2000-1555))},
		{"rose", mark(2000, span(7, 7)), mark(2000, span(9, 9)), is(span(1555-2000, 1555-2000))},
		{"sank below the camera", mark(2000, span(7, 7)), mark(2000, span(-7, -7)), is(span(1555+1556, 1555+1556))},
		{"came nearer below a row", mark(3600, span(5, 5)), mark(2000, span(5, 5)), is(span(2000-1111, 2000-1111))},
		{"neither", risen(near(), span(1, 2)), risen(near(), span(1, 2)), is(span(222-500, 500-222))},
		{"not seen", mark(2000, span(9, 9)), at(span(-2, -1), span(0, 0)), failed(api.ErrRefuse)},
	} {
		expect(t, x.what, sank(between(rocks(x.first), rocks(x.second)), 0), x.want)
	}
	high := 2 * api.MaxPlate * api.MaxFar
	expect(t, "the widest", sank(between(widest(), widest()), 0), is(span(-high, high)))
}

func TestRate(t *testing.T) {
	for _, x := range []struct {
		what          string
		first, second api.Pair
		days          change
		want          outcome
	}{
		{"a year", flat(2000), flat(2003), days(7, 372), is(span(3, 3))},
		{"half a year more", flat(2000), flat(2003), days(0, 548), is(span(1, 2))},
		{"half a year more, nearer", flat(2003), flat(2000), days(0, 548), is(span(-2, -1))},
		{"a day", flat(2000), flat(2003), days(0, 1), is(span(1095, 1095))},
		{"as many days as can be", flat(2001), flat(2000), days(0, api.MaxDay), is(span(-1, 0))},
		{"as many days as can be, away", flat(2000), flat(2001), days(0, api.MaxDay), is(span(0, 1))},
		{"nothing", flat(2000), flat(2000), days(0, 3), is(span(0, 0))},
		{"nearer or away", rocks(near()), rocks(near()), days(65436, api.MaxDay), is(span(-913, 913))},
		{"not seen", flat(0), flat(2000), days(0, 1), failed(api.ErrRefuse)},
	} {
		expect(t, x.what, rate(changed(between(x.first, x.second), x.days), 0), x.want)
	}
}

func TestStays(t *testing.T) {
	sharp := func(focal int, y api.Span) api.Pair {
		p := rocks(mark(2000, y))
		p.Focal, p.Base = span(focal, focal), span(1, 1)
		return p
	}
	for _, x := range []struct {
		what          string
		first, second api.Pair
		want          outcome
	}{
		{"no thing", flat(), flat(), number(0, 0)},
		{"a landmark", flat(2000), flat(2000), number(1, 1)},
		{"a landmark elsewhere", flat(2000), flat(2001), number(0, 0)},
		{"a landmark in a row", sharp(9, span(7, 7)), sharp(9, span(7, 7)), number(1, 1)},
		{"a landmark that sank", sharp(9, span(7, 7)), sharp(9, span(6, 6)), number(0, 0)},
		{"a landmark that can have sunk", sharp(9, span(7, 7)), sharp(9, span(6, 7)), number(0, 1)},
		{"other places, and the same height", sharp(9999, span(100, 100)), sharp(10000, span(104, 104)), number(1, 1)},
		{"other places, and not the same height", sharp(9999, span(100, 100)), sharp(10000, span(105, 105)), number(0, 0)},
		{"other places below, and the same height", sharp(10000, span(-100, -100)), sharp(10000, span(-96, -96)), number(1, 1)},
		{"other places below, and not the same height", sharp(10000, span(-100, -100)), sharp(10000, span(-95, -95)), number(0, 0)},
		{"the least height below, and none", sharp(50000, span(-1, -1)), sharp(50000, span(0, 0)), number(0, 0)},
		{"the least height above, and none", sharp(50000, span(1, 24)), sharp(50000, span(0, 0)), number(1, 1)},
		{"heights of which each is between two others", sharp(9, span(1, 3)), sharp(8, span(2, 2)), number(0, 0)},
		{"a known thing", rocks(near()), rocks(near()), number(0, 1)},
		{"a thing that moved", rocks(near()), rocks(far()), number(0, 0)},
		{"a thing that stood there", rocks(near()), flat(2250), number(0, 1)},
		{"a thing that did not stand there", rocks(near()), flat(2251), number(0, 0)},
		{"one height, but just at other distances", rocks(risen(near(), span(12, 12))), rocks(at(span(3, 4), span(11, 11))), number(0, 0)},
		{"what is not seen", flat(0, 2000, 2000), flat(2000, 0, 2000), number(4, 4)},
	} {
		expect(t, x.what, stays(between(x.first, x.second)), x.want)
	}
	expect(t, "the widest", stays(between(widest(), widest())), number(0, 3))
}

func TestFastest(t *testing.T) {
	for _, x := range []struct {
		what          string
		first, second api.Pair
		want          int
	}{
		{"no thing", flat(), flat(), 0},
		{"none is seen", flat(0, 2000), flat(2000, 0), 0},
		{"one", flat(2000), flat(2000), set(0)},
		{"the one that came nearest", flat(3000, 3000, 3000), flat(2500, 2499, 2501), set(1)},
		{"the nearest one is not the fastest", flat(3000, 2000), flat(2900, 2000), set(0)},
		{"two that are as fast", flat(3000, 4000, 5000), flat(2500, 3500, 4501), set(0, 1)},
		{"all went away", flat(3000, 3000), flat(4000, 4001), set(0)},
		{"one that is not seen", flat(0, 3000, 3000), flat(2000, 2500, 3000), set(1)},
		{"it can be, just so", rocks(near(), mark(2250, span(0, 0))), rocks(near(), mark(2000, span(0, 0))), set(0, 1)},
		{"it cannot be", rocks(near(), mark(2251, span(0, 0))), rocks(near(), mark(2000, span(0, 0))), set(1)},
		{"three that can be", rocks(near(), near(), near(), far()), rocks(near(), near(), near(), far()), set(0, 1, 2, 3)},
	} {
		expect(t, x.what, fastest(between(x.first, x.second)), number(x.want))
	}
}

func TestAlike(t *testing.T) {
	spread := between(flat(3000, 3000, 3000, 3000), flat(2000, 2010, 2020, 2030))
	for _, x := range []struct {
		what string
		g    api.Glacier
		even int
		want int
	}{
		{"no thing", between(flat(), flat()), 0, 0},
		{"none is seen", between(flat(0, 2000), flat(2000, 0)), api.MaxFar, 0},
		{"one is seen", between(flat(0, 2000), flat(2000, 9000)), 0, set(1)},
		{"each by itself", spread, 9, set(0)},
		{"two", spread, 10, set(0, 1)},
		{"not yet three", spread, 19, set(0, 1)},
		{"three", spread, 20, set(0, 1, 2)},
		{"not yet all", spread, 29, set(0, 1, 2)},
		{"all", spread, 30, set(0, 1, 2, 3)},
		{"as much as can be asked", spread, api.MaxFar, set(0, 1, 2, 3)},
		{"the last ones", between(flat(3000, 3000, 3000, 3000), flat(3000, 2000, 2500, 2510)), 10, set(2, 3)},
		{"of two sets the least", between(flat(3000, 3000, 3000, 3000), flat(2000, 2500, 2001, 2501)), 1, set(0, 2)},
		{"the greatest number is not the first", between(flat(3000, 3000, 3000), flat(2000, 2500, 2000)), 0, set(0, 2)},
		{"what is not seen", between(flat(3000, 0, 3000), flat(2500, 2000, 2500)), 0, set(0, 2)},
		{"spans that meet", between(rocks(near(), mark(2250, span(0, 0))), rocks(near(), mark(2000, span(0, 0)))), 0, set(0, 1)},
		{"spans that do not meet", between(rocks(near(), mark(2253, span(0, 0))), rocks(near(), mark(2000, span(0, 0)))), 2, set(0)},
		{"spans that nearly meet", between(rocks(near(), mark(2253, span(0, 0))), rocks(near(), mark(2000, span(0, 0)))), 3, set(0, 1)},
		{"both are with a third, but not with one another", between(
			rocks(mark(2200, span(0, 0)), near(), mark(2000, span(0, 0))),
			rocks(mark(2000, span(0, 0)), near(), mark(2200, span(0, 0)))), 399, set(0, 1)},
	} {
		expect(t, x.what, alike(x.g, x.even), number(x.want))
	}
}

func TestArrives(t *testing.T) {
	nearer := between(flat(3000), flat(2000)) // by 10 millimetres a day
	rather := between(rocks(far()), rocks(near()))
	for _, x := range []struct {
		what string
		g    api.Glacier
		far  int
		want outcome
	}{
		{"there already", nearer, 2000, number(200, 200)},
		{"beyond all", nearer, api.MaxFar, number(200, 200)},
		{"on the next day", nearer, 1999, number(201, 201)},
		{"just on the next day", nearer, 1990, number(201, 201)},
		{"just on a later day", nearer, 1000, number(300, 300)},
		{"a little later", nearer, 999, number(301, 301)},
		{"at the camera", nearer, 0, number(400, 400)},
		{"it went away", between(flat(2000), flat(3000)), 2999, failed(api.ErrNone)},
		{"it went away, but is near enough", between(flat(2000), flat(3000)), 3000, number(200, 200)},
		{"it stayed", between(flat(2000), flat(2000)), 1999, failed(api.ErrNone)},
		{"it stayed near enough", between(flat(2000), flat(2000)), 2000, number(200, 200)},
		{"it came nearer at least by little", rather, 1000, number(300, api.NoDay)},
		{"it is there, or soon", rather, 2000, number(200, 25200)},
		{"it is there", rather, 2250, number(200, 200)},
		{"it can have stayed", between(rocks(near()), rocks(near())), 1999, number(201, api.NoDay)},
		{"it can be there", between(rocks(near()), rocks(near())), 2249, number(200, api.NoDay)},
		{"the last day", changed(nearer, days(65336, 65436)), 1000, number(api.MaxDay, api.MaxDay)},
		{"after the last day", changed(nearer, days(65337, 65437)), 1000, failed(api.ErrNone)},
		{"there on the last day", changed(nearer, days(0, api.MaxDay)), 2000, number(api.MaxDay, api.MaxDay)},
		{"after the last day by one", changed(nearer, days(65535, api.MaxDay)), 1999, failed(api.ErrNone)},
		{"from the first day on", changed(nearer, days(0, 1)), 0, number(3, 3)},
		{"not seen", between(flat(2000), flat(0)), 1999, failed(api.ErrRefuse)},
	} {
		expect(t, x.what, arrives(x.g, 0, x.far), x.want)
	}
}

// bad returns changes each of which makes a glacier one that is not valid.
func bad() map[string]change {
	list := map[string]change{
		"a first day below 0":      days(-1, 200),
		"a second day too great":   days(100, api.MaxDay+1),
		"one day":                  days(100, 100),
		"a second day before":      days(200, 100),
		"two days that are none":   days(api.MaxDay+1, api.MaxDay+2),
		"a thing less":             func(g *api.Glacier) { g.First.Things = g.First.Things[:5] },
		"a thing less in the last": func(g *api.Glacier) { g.Second.Things = g.Second.Things[:5] },
		"no things at first":       func(g *api.Glacier) { g.First.Things = nil },
		"too many things": func(g *api.Glacier) {
			g.First.Things, g.Second.Things = make([]api.Thing, api.MaxThings+1), make([]api.Thing, api.MaxThings+1)
		},
	}
	for name, f := range map[string]func(p *api.Pair){
		"a focal length of 0":  func(p *api.Pair) { p.Focal.Lo = 0 },
		"a base too great":     func(p *api.Pair) { p.Base.Hi = api.MaxBase + 1 },
		"a tilt below 0":       func(p *api.Pair) { p.Tilt = -1 },
		"near too little":      func(p *api.Pair) { p.Near = api.MaxShift - 1 },
		"far before near":      func(p *api.Pair) { p.Far = p.Near - 1 },
		"a span turned round":  func(p *api.Pair) { p.Focal = span(9001, 9000) },
		"a place off a plate":  func(p *api.Pair) { p.Things = append([]api.Thing{at(span(0, 0), span(0, 4001))}, p.Things[1:]...) },
		"a landmark too near":  func(p *api.Pair) { p.Things = append([]api.Thing{mark(p.Near-1, span(0, 0))}, p.Things[1:]...) },
		"a distance too great": func(p *api.Pair) { p.Far = api.MaxFar + 1 },
	} {
		list[name+" at first"] = func(g *api.Glacier) { f(&g.First) }
		list[name+" at last"] = func(g *api.Glacier) { f(&g.Second) }
	}
	return list
}

func TestNotValid(t *testing.T) {
	for name, f := range bad() {
		for _, numbers := range [][3]int{{1, 0, 0}, {-1, -1, -1}, {6, api.MaxFar + 1, api.MaxFar + 1}, {2, 0, 0}} {
			for what, got := range everything(sample(f), numbers[0], numbers[1], numbers[2]) {
				expect(t, what+" of "+name, got, failed(api.ErrArg))
			}
		}
	}
	late := changed(sample(), days(0, api.MaxDay))
	for what, got := range everything(late, 0, 0, api.MaxFar) {
		expect(t, what+" of the most days", failed(got.e), failed(api.OK))
	}
}

func TestNumbers(t *testing.T) {
	truths := []change{
		func(g *api.Glacier) {},
		func(g *api.Glacier) { untrue(&g.First) },
		func(g *api.Glacier) { untrue(&g.Second) },
	}
	for _, f := range truths {
		for _, thing := range []int{-1, 6, 7, 1 << 40, -1 << 62} {
			for what, got := range everything(sample(f), thing, 0, 0) {
				if withThing(what) {
					expect(t, what+" of a thing that is none", got, failed(api.ErrRange))
				}
			}
		}
		for _, n := range []int{-1, api.MaxFar + 1, 1 << 62, -1 << 62} {
			expect(t, "Alike within too little, or too much", alike(sample(f), n), failed(api.ErrRange))
			expect(t, "Arrives at what is no distance", arrives(sample(f), 1, n), failed(api.ErrRange))
			expect(t, "Arrives of what is not seen at what is no distance", arrives(sample(f), 2, n), failed(api.ErrRange))
		}
	}
	for what, got := range everything(between(flat(), flat()), 0, 0, 0) {
		if withThing(what) {
			expect(t, what+" of no things", got, failed(api.ErrRange))
		}
	}
	expect(t, "Alike within the most", alike(sample(), api.MaxFar), number(set(0, 1)))
	expect(t, "Arrives at the most", arrives(sample(), 1, api.MaxFar), number(200, 200))
}

// Without a truth nothing is told, also of what is not seen.
func TestNoTruth(t *testing.T) {
	first := func(g *api.Glacier) { untrue(&g.First) }
	second := func(g *api.Glacier) { untrue(&g.Second) }
	for _, g := range []api.Glacier{sample(first), sample(second), sample(first, second)} {
		for _, thing := range []int{0, 1, 2} {
			for what, got := range everything(g, thing, 0, 0) {
				expect(t, what+" without a truth", got, failed(api.ErrNone))
			}
		}
	}
}

// What is not seen in one pair is refused, also if it would be on no day.
func TestNotSeen(t *testing.T) {
	for _, g := range []api.Glacier{between(flat(2000, 0), flat(2000, 2000)), between(flat(2000, 2000), flat(2000, 0)), between(flat(2000, 0), flat(2000, 0))} {
		for what, got := range everything(g, 1, 0, 0) {
			if withThing(what) {
				expect(t, what+" of what is not seen", got, failed(api.ErrRefuse))
			} else {
				expect(t, what, failed(got.e), failed(api.OK))
			}
		}
	}
}
