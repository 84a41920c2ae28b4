package walk_test

import (
	"math"
	"reflect"
	"slices"
	"testing"

	"pairworks/api"
	"pairworks/walk"
)

func span(lo, hi int) api.Span { return api.Span{Lo: lo, Hi: hi} }

// spans returns spans of a least and a greatest number each.
func spans(numbers ...int) []api.Span {
	var list []api.Span
	for k := 0; k < len(numbers); k += 2 {
		list = append(list, span(numbers[k], numbers[k+1]))
	}
	return list
}

// exact returns spans of one number each.
func exact(numbers ...int) []api.Span {
	var list []api.Span
	for _, n := range numbers {
		list = append(list, span(n, n))
	}
	return list
}

// sample returns the views of the chapter's examples; a way from a view to itself is not used.
func sample() api.Tour {
	return api.Tour{
		Dawn:  360,
		From:  spans(30, 40, 20, 20, 60, 70),
		Ways:  [][]api.Span{spans(0, 1440, 15, 20, 45, 50), spans(15, 20, 7, 7, 30, 35), spans(45, 50, 30, 35, 0, 0)},
		Stay:  spans(10, 15, 20, 20, 5, 10),
		Light: spans(420, 480, 380, 600, 500, 540),
	}
}

// plain returns so many views at which there is light all day, without ways and stays.
func plain(dawn, views int) api.Tour {
	t := api.Tour{Dawn: dawn}
	for range views {
		t.From, t.Stay, t.Light = append(t.From, api.Span{}), append(t.Stay, api.Span{}), append(t.Light, span(0, api.MaxMinute))
		t.Ways = append(t.Ways, make([]api.Span, views))
	}
	return t
}

// lit returns views without ways and stays, by when there is light.
func lit(dawn int, light ...int) api.Tour {
	t := plain(dawn, len(light)/2)
	t.Light = spans(light...)
	return t
}

// clone returns views with lists of their own.
func clone(t api.Tour) api.Tour {
	t.From, t.Stay, t.Light, t.Ways = slices.Clone(t.From), slices.Clone(t.Stay), slices.Clone(t.Light), slices.Clone(t.Ways)
	for k := range t.Ways {
		t.Ways[k] = slices.Clone(t.Ways[k])
	}
	return t
}

// with returns views that are changed.
func with(t api.Tour, change func(*api.Tour)) api.Tour {
	t = clone(t)
	change(&t)
	return t
}

// outcome is all results of a call.
type outcome struct {
	numbers [2]int
	surely  bool
	order   []int
	begin   []api.Span
	over    api.Span
	e       api.Errno
}

func told(numbers ...int) outcome {
	var o outcome
	copy(o.numbers[:], numbers)
	return o
}

func listed(order ...int) outcome { return outcome{order: order} }

func failed(e api.Errno) outcome { return outcome{e: e} }

// timed returns what Times tells: a least and a greatest minute for each view, and for the end.
func timed(minutes ...int) outcome {
	list := spans(minutes...)
	views := len(list) - 1
	if views == 0 {
		return outcome{over: list[0]}
	}
	return outcome{begin: list[:views], over: list[views]}
}

func fails(view int, surely bool) outcome { return outcome{numbers: [2]int{view}, surely: surely} }

func walked(t api.Tour, order ...int) outcome {
	n, e := walk.Walked(t, order)
	return outcome{numbers: [2]int{n}, e: e}
}

// orNil returns a list, and nil if it is empty: both are the same value.
func orNil[T any](list []T) []T {
	if len(list) == 0 {
		return nil
	}
	return list
}

func times(t api.Tour, order ...int) outcome {
	begin, over, e := walk.Times(t, order)
	return outcome{begin: orNil(begin), over: over, e: e}
}

func late(t api.Tour, order ...int) outcome {
	view, surely, e := walk.Late(t, order)
	return outcome{numbers: [2]int{view}, surely: surely, e: e}
}

func tours(t api.Tour) outcome {
	surely, can, e := walk.Tours(t)
	return outcome{numbers: [2]int{surely, can}, e: e}
}

func shortest(t api.Tour) outcome {
	order, e := walk.Shortest(t)
	return outcome{order: orNil(order), e: e}
}

func most(t api.Tour) outcome {
	order, e := walk.Most(t)
	return outcome{order: orNil(order), e: e}
}

func before(t api.Tour, a, b int) outcome {
	n, e := walk.Before(t, a, b)
	return outcome{numbers: [2]int{n}, e: e}
}

func later(t api.Tour, order ...int) outcome {
	n, e := walk.Later(t, order)
	return outcome{numbers: [2]int{n}, e: e}
}

func expect[T any](t *testing.T, what string, got, want T) {
	t.Helper()
	if !reflect.DeepEqual(got, want) {
		t.Errorf("%s: got %+v, want %+v", what, got, want)
	}
}

func TestExamples(t *testing.T) {
	s := sample()
	expect(t, "Walked of 1 0 2", walked(s, 1, 0, 2), told(2))
	expect(t, "Walked of 1 2 0", walked(s, 1, 2, 0), told(0))
	expect(t, "Times of 0 1 2", times(s, 0, 1, 2), timed(420, 420, 445, 455, 500, 510, 505, 520))
	expect(t, "Late of 1 2 0", late(s, 1, 2, 0), fails(0, true))
	expect(t, "Late of 0 1 2", late(s, 0, 1, 2), failed(api.ErrNone))
	expect(t, "Tours", tours(s), told(3, 3))
	expect(t, "Shortest", shortest(s), listed(1, 0, 2))
	expect(t, "Most", most(s), listed(1, 0, 2))
	expect(t, "Before of 0 and 2", before(s, 0, 2), told(2))
	expect(t, "Before of 1 and 0", before(s, 1, 0), told(1))
	expect(t, "Later of 1 0 2", later(s, 1, 0, 2), told(55))
}

// one returns a single view, to which one comes from 430 to 440, and at which one stays 5 to 7 minutes.
func one(light, lightHi int) api.Tour {
	return api.Tour{Dawn: 400, From: spans(30, 40), Ways: [][]api.Span{spans(9, 99)}, Stay: spans(5, 7), Light: spans(light, lightHi)}
}

// two returns two views; one is at the first from 430 to 440, and at the second from 465 to 487, or at most 10 minutes later, if one waits for light.
func two(light, lightHi, second, secondHi int) api.Tour {
	return api.Tour{
		Dawn: 400, From: spans(30, 40, 0, 1440), Ways: [][]api.Span{spans(1, 1, 30, 40), spans(2, 3, 1, 1)},
		Stay: spans(5, 7, 11, 13), Light: spans(light, lightHi, second, secondHi),
	}
}

func TestWalkedAndLate(t *testing.T) {
	sure, fine := failed(api.ErrNone), told(api.WalkAlways)
	for _, x := range []struct {
		what   string
		t      api.Tour
		order  []int
		walked outcome
		late   outcome
	}{
		{"no views", plain(400, 0), nil, fine, sure},
		{"none of the views", one(0, 0), nil, fine, sure},
		{"light all day", one(0, api.MaxMinute), []int{0}, fine, sure},
		{"light until one comes at last", one(0, 440), []int{0}, fine, sure},
		{"light until a minute before", one(0, 439), []int{0}, told(1), fails(0, false)},
		{"light until one comes at first", one(0, 430), []int{0}, told(1), fails(0, false)},
		{"light until a minute before that", one(0, 429), []int{0}, told(0), fails(0, true)},
		{"light that begins when one comes at last", one(440, 440), []int{0}, fine, sure},
		{"light that begins later", one(450, 450), []int{0}, fine, sure},
		{"light of one minute", one(435, 435), []int{0}, told(1), fails(0, false)},
		{"the stay is not over by the end of light", one(430, 441), []int{0}, fine, sure},
		{"two views", two(0, 440, 0, 487), []int{0, 1}, fine, sure},
		{"perhaps too late for the second one", two(0, 440, 0, 486), []int{0, 1}, told(1), fails(1, false)},
		{"just in time for the second one", two(0, 440, 0, 465), []int{0, 1}, told(1), fails(1, false)},
		{"surely too late for the second one", two(0, 440, 0, 464), []int{0, 1}, told(0), fails(1, true)},
		{"perhaps too late for both", two(0, 439, 0, 486), []int{0, 1}, told(1), fails(0, false)},
		{"perhaps too late for the first one, surely for the second one", two(0, 439, 0, 464), []int{0, 1}, told(0), fails(0, false)},
		{"surely too late for the first one alone", two(0, 429, 0, 1440), []int{0, 1}, told(0), fails(0, true)},
		{"waiting helps nothing", two(440, 440, 0, 474), []int{0, 1}, told(0), fails(1, true)},
		{"waiting makes one later in some truths", two(435, 440, 0, 469), []int{0, 1}, told(0), fails(1, true)},
		{"waiting makes one later, at most so much", two(435, 440, 0, 470), []int{0, 1}, told(1), fails(1, false)},
		{"the first view of the order, not the one with the least number", lit(400, 0, 0, 0, 0), []int{1, 0}, told(0), fails(1, true)},
		{"a view that is not in the order", lit(400, 0, 0, 0, 400), []int{1}, fine, sure},
		{"at once", lit(400, 400, 400, 400, 400), []int{1, 0}, fine, sure},
		{"a light before the dawn", lit(400, 0, 399), []int{0}, told(0), fails(0, true)},
		{"never, though each view alone is in time", lit(400, 500, 500, 400, 499), []int{0, 1}, told(0), fails(1, true)},
		{"in the other order", lit(400, 500, 500, 400, 499), []int{1, 0}, fine, sure},
		{"some views", sample(), []int{2, 1}, fine, sure},
		{"another tour of the examples", sample(), []int{2, 0, 1}, told(0), fails(0, true)},
	} {
		expect(t, "Walked: "+x.what, walked(x.t, x.order...), x.walked)
		expect(t, "Late: "+x.what, late(x.t, x.order...), x.late)
	}
}

func TestTimes(t *testing.T) {
	for _, x := range []struct {
		what  string
		t     api.Tour
		order []int
		want  outcome
	}{
		{"no views", plain(400, 0), nil, timed(400, 400)},
		{"none of the views", sample(), nil, timed(360, 360)},
		{"at once", lit(400, 0, 1440), []int{0}, timed(400, 400, 400, 400)},
		{"one view", one(0, 1440), []int{0}, timed(430, 440, 435, 447)},
		{"one waits in each truth", one(441, 1440), []int{0}, timed(441, 441, 446, 448)},
		{"one waits in some truths", one(437, 1440), []int{0}, timed(437, 440, 442, 447)},
		{"too late in each truth", one(3, 4), []int{0}, timed(430, 440, 435, 447)},
		{"too late in some truths", one(3, 436), []int{0}, timed(430, 440, 435, 447)},
		{"two views", two(0, 1440, 0, 1440), []int{0, 1}, timed(430, 440, 465, 487, 476, 500)},
		{"two views, though it is dark", two(0, 1, 0, 1), []int{0, 1}, timed(430, 440, 465, 487, 476, 500)},
		{"the way back is another one", two(0, 1440, 0, 1440), []int{1, 0}, timed(400, 1840, 413, 1856, 418, 1863)},
		{"some views", sample(), []int{2, 1}, timed(500, 500, 535, 545, 555, 565)},
		{"the last tour", sample(), []int{2, 1, 0}, timed(500, 500, 535, 545, 570, 585, 580, 600)},
	} {
		expect(t, x.what, times(x.t, x.order...), x.want)
	}
}

func TestTours(t *testing.T) {
	for _, x := range []struct {
		what string
		t    api.Tour
		want outcome
	}{
		{"no view", plain(0, 0), told(1, 1)},
		{"no view, at the last minute", plain(1440, 0), told(1, 1)},
		{"a sure view", one(0, 440), told(1, 1)},
		{"a view that can be reached", one(0, 439), told(0, 1)},
		{"a view that cannot", one(0, 429), told(0, 0)},
		{"six views", plain(1440, 6), told(720, 720)},
		{"one order alone", lit(400, 403, 403, 401, 401, 402, 402), told(1, 1)},
		{"one view that is too early", lit(400, 0, 399, 0, 1440, 0, 1440), told(0, 0)},
		{"one that must be the first", lit(400, 400, 400, 401, 402, 401, 402), told(2, 2)},
		{"some can be walked alone", with(two(0, 1440, 0, 486), func(t *api.Tour) { t.From[1] = span(0, 0) }), told(1, 2)},
	} {
		expect(t, x.what, tours(x.t), x.want)
	}
}

// between returns views at which there is light all day; a way takes as long as is told for the one from a view to another one, and else it takes 10 minutes.
func between(views int, ways ...[3]int) api.Tour {
	t := plain(100, views)
	for a := range views {
		for b := range views {
			t.Ways[a][b] = span(10, 10)
		}
	}
	for _, w := range ways {
		t.Ways[w[0]][w[1]] = span(0, w[2])
	}
	return t
}

func TestShortestAndMost(t *testing.T) {
	none := failed(api.ErrNone)
	for _, x := range []struct {
		what     string
		t        api.Tour
		shortest outcome
		most     outcome
	}{
		{"no view", plain(7, 0), listed(), listed()},
		{"one view", one(0, 440), listed(0), listed(0)},
		{"one view that is not sure", one(0, 439), none, listed()},
		{"one view that is never reached", one(0, 0), none, listed()},
		{"the first of several, in lexicographic order", plain(7, 6), listed(0, 1, 2, 3, 4, 5), listed(0, 1, 2, 3, 4, 5)},
		{"a quick way", between(3, [3]int{2, 1, 9}), listed(0, 2, 1), listed(0, 2, 1)},
		{"a quick way the other way round", between(3, [3]int{1, 2, 9}), listed(0, 1, 2), listed(0, 1, 2)},
		{"a way that can be quicker, but is not surely", between(3, [3]int{2, 1, 10}), listed(0, 1, 2), listed(0, 1, 2)},
		{"the quickest way", between(3, [3]int{0, 1, 9}, [3]int{2, 0, 8}), listed(2, 0, 1), listed(2, 0, 1)},
		{"the first of two quick ones", between(3, [3]int{2, 0, 9}, [3]int{1, 0, 9}), listed(1, 0, 2), listed(1, 0, 2)},
		{"the order decides after the time, also late in a tour", between(4, [3]int{0, 3, 5}, [3]int{0, 2, 5}), listed(0, 2, 1, 3), listed(0, 2, 1, 3)},
		{"one alone is sure", lit(400, 403, 403, 401, 401, 402, 402), listed(1, 2, 0), listed(1, 2, 0)},
		{"more views rather than less time", lit(400, 1400, 1400, 0, 399, 0, 1440), none, listed(0, 2)},
		{"of as many views those that take less time", lit(400, 1400, 1400, 500, 500, 400, 400, 0, 399), none, listed(2, 1, 0)},
		{"not the first ones, but those that are sooner over", with(between(3), func(t *api.Tour) { t.Light = spans(100, 100, 100, 100, 100, 110); t.Stay = exact(20, 0, 0) }), none, listed(1, 2)},
		{"of those that take as long the first ones", lit(400, 400, 400, 0, 399, 400, 400), none, listed(0, 2)},
		{"one can begin at once, but it makes all others late", with(between(3), func(t *api.Tour) { t.Stay[0] = span(0, 1440); t.Light = spans(0, 130, 0, 130, 0, 130) }), listed(1, 2, 0), listed(1, 2, 0)},
		{"a quick way that is no help, as one waits", with(between(3, [3]int{1, 0, 1}), func(t *api.Tour) { t.Light[2] = span(500, 500) }), listed(0, 1, 2), listed(0, 1, 2)},
		{"a long way that does no harm, as one waits", with(between(3), func(t *api.Tour) { t.Light[2] = span(500, 500); t.Ways[0][1] = span(390, 390) }), listed(0, 1, 2), listed(0, 1, 2)},
		{"a long way that does harm, as one waits too little", with(between(3), func(t *api.Tour) { t.Light[2] = span(500, 500); t.Ways[0][1] = span(391, 391) }), listed(1, 0, 2), listed(1, 0, 2)},
		{"the stay at the last view counts", with(between(2), func(t *api.Tour) { t.Light[0] = span(0, 100); t.Light[1] = span(0, 100); t.Stay = exact(5, 4) }), none, listed(1)},
	} {
		expect(t, "Shortest: "+x.what, shortest(x.t), x.shortest)
		expect(t, "Most: "+x.what, most(x.t), x.most)
	}
}

func TestBefore(t *testing.T) {
	free, first := plain(400, 3), lit(400, 401, 401, 400, 400, 400, 401)
	none := lit(400, 0, 399, 0, 1440, 0, 1440)
	unsure := with(two(0, 440, 0, 487), func(t *api.Tour) { t.Light[0].Hi = 439 })
	for _, x := range []struct {
		what string
		t    api.Tour
		a, b int
		want outcome
	}{
		{"any order", free, 0, 1, told(1)},
		{"any order, turned", free, 1, 0, told(1)},
		{"just one order", lit(400, 403, 403, 401, 401, 402, 402), 2, 0, told(2)},
		{"just one order, turned", lit(400, 403, 403, 401, 401, 402, 402), 0, 2, told(0)},
		{"just one order, over another view", lit(400, 403, 403, 401, 401, 402, 402), 1, 0, told(2)},
		{"some tours", first, 1, 0, told(2)},
		{"some tours, turned", first, 0, 1, told(0)},
		{"a view that can be anywhere", first, 2, 0, told(1)},
		{"a view that can be anywhere, turned", first, 0, 2, told(1)},
		{"no tour is sure", none, 1, 2, failed(api.ErrNone)},
		{"no tour is sure, though one can be walked", unsure, 0, 1, failed(api.ErrNone)},
		{"a tour that is not sure does not count", with(two(0, 1440, 0, 486), func(t *api.Tour) { t.From[1] = span(0, 0) }), 0, 1, told(0)},
		{"a tour that is not sure does not count, turned", with(two(0, 1440, 0, 486), func(t *api.Tour) { t.From[1] = span(0, 0) }), 1, 0, told(2)},
		{"the examples", sample(), 0, 1, told(1)},
		{"the examples, turned", sample(), 2, 0, told(0)},
		{"the examples, the other view", sample(), 2, 1, told(1)},
	} {
		expect(t, x.what, before(x.t, x.a, x.b), x.want)
	}
}

func TestLater(t *testing.T) {
	none := failed(api.ErrNone)
	for _, x := range []struct {
		what  string
		t     api.Tour
		order []int
		want  outcome
	}{
		{"no view", plain(400, 0), nil, told(1040)},
		{"no view, at the last minute", plain(1440, 0), nil, told(0)},
		{"none of the views", one(0, 0), nil, told(1040)},
		{"until the light ends", one(0, 500), []int{0}, told(60)},
		{"a minute", one(0, 441), []int{0}, told(1)},
		{"not a minute", one(0, 440), []int{0}, told(0)},
		{"not sure", one(0, 439), []int{0}, none},
		{"never", one(0, 0), []int{0}, none},
		{"until the last minute of the light", one(0, 1440), []int{0}, told(1000)},
		{"until the last minute of the day", lit(400, 0, 1440), []int{0}, told(1040)},
		{"waiting", one(500, 500), []int{0}, told(60)},
		{"the first view decides", two(0, 450, 0, 500), []int{0, 1}, told(10)},
		{"the second view decides", two(0, 450, 0, 490), []int{0, 1}, told(3)},
		{"the first view decides, as one waits there", two(460, 460, 0, 507), []int{0, 1}, told(20)},
		{"one waits at the first view, and would be too late for the second one", two(450, 1440, 0, 497), []int{0, 1}, told(10)},
		{"the second one is not sure", two(450, 1440, 0, 496), []int{0, 1}, none},
		{"another order", sample(), []int{0, 1, 2}, told(540 - 490)},
		{"some views", sample(), []int{1, 2}, told(540 - 360 - 20 - 20 - 35)},
	} {
		expect(t, x.what, later(x.t, x.order...), x.want)
	}
}

// ways returns how many ways lists have, by how many ways, and how many there are.
func ways(lists, long int) [][]api.Span {
	var list [][]api.Span
	for range lists {
		list = append(list, make([]api.Span, long))
	}
	return list
}

// toursThatAreNotValid returns views, by what is wrong with them.
func toursThatAreNotValid() map[string]api.Tour {
	list := map[string]api.Tour{
		"Dawn -1":             plain(-1, 0),
		"Dawn 1441":           plain(1441, 2),
		"the least Dawn":      plain(math.MinInt, 1),
		"the greatest Dawn":   plain(math.MaxInt, 1),
		"7 views":             plain(0, 7),
		"no From":             {Ways: ways(1, 1), Stay: exact(0), Light: exact(0)},
		"no Ways":             {From: exact(0), Stay: exact(0), Light: exact(0)},
		"no Stay":             {From: exact(0), Ways: ways(1, 1), Light: exact(0)},
		"no Light":            {From: exact(0), Ways: ways(1, 1), Stay: exact(0)},
		"From alone":          {From: exact(0)},
		"Ways without a view": {Ways: ways(1, 0)},
		"Stay without a view": {Stay: exact(0)},
		"a From more":         with(sample(), func(t *api.Tour) { t.From = append(t.From, span(1, 1)) }),
		"a Ways more":         with(sample(), func(t *api.Tour) { t.Ways = ways(4, 3) }),
		"a Ways less":         with(sample(), func(t *api.Tour) { t.Ways = t.Ways[:2] }),
		"Ways with one less":  with(sample(), func(t *api.Tour) { t.Ways[2] = t.Ways[2][:2] }),
		"Ways with one more":  with(sample(), func(t *api.Tour) { t.Ways[1] = append(t.Ways[1], span(0, 0)) }),
		"a nil Ways":          with(sample(), func(t *api.Tour) { t.Ways[0] = nil }),
		"a Stay more":         with(sample(), func(t *api.Tour) { t.Stay = append(t.Stay, span(0, 0)) }),
		"a Light less":        with(sample(), func(t *api.Tour) { t.Light = t.Light[:2] }),
	}
	for what, s := range map[string]api.Span{
		"Lo above Hi": span(2, 1), "Lo -1": span(-1, 5), "Hi 1441": span(5, 1441), "below": span(-9, -8), "beyond": span(1441, 1442),
		"the least and the greatest number": span(math.MinInt, math.MaxInt), "the greatest and the least number": span(math.MaxInt, math.MinInt),
	} {
		list["From with "+what] = with(sample(), func(t *api.Tour) { t.From[2] = s })
		list["Ways with "+what] = with(sample(), func(t *api.Tour) { t.Ways[2][1] = s })
		list["Ways that are not used with "+what] = with(sample(), func(t *api.Tour) { t.Ways[1][1] = s })
		list["Stay with "+what] = with(sample(), func(t *api.Tour) { t.Stay[0] = s })
		list["Light with "+what] = with(sample(), func(t *api.Tour) { t.Light[1] = s })
	}
	return list
}

// ofOrder returns what each function does that is given an order.
func ofOrder(t api.Tour, order ...int) map[string]outcome {
	return map[string]outcome{
		"Walked": walked(t, order...), "Times": times(t, order...), "Late": late(t, order...), "Later": later(t, order...),
	}
}

// everything calls each function, and returns what it does.
func everything(t api.Tour, a, b int, order ...int) map[string]outcome {
	all := ofOrder(t, order...)
	all["Tours"], all["Shortest"], all["Most"], all["Before"] = tours(t), shortest(t), most(t), before(t, a, b)
	return all
}

func TestToursThatAreNotValid(t *testing.T) {
	for what, x := range toursThatAreNotValid() {
		for _, view := range []int{0, -1, 9} {
			for name, got := range everything(x, 0, view, 0, view) {
				expect(t, name+" with "+what, got, failed(api.ErrArg))
			}
		}
		for name, got := range everything(x, 0, 1) {
			expect(t, name+" of no view with "+what, got, failed(api.ErrArg))
		}
	}
}

func TestOrdersThatAreNone(t *testing.T) {
	dark := with(sample(), func(t *api.Tour) { t.Light[0] = span(0, 0) })
	for what, x := range map[string]api.Tour{"sure tours": sample(), "no sure tour": dark} {
		for _, order := range [][]int{
			{-1}, {3}, {6}, {math.MinInt}, {math.MaxInt}, {0, 0}, {0, 1, 0}, {2, 1, 1}, {0, 1, 2, 0}, {0, 1, 2, 3}, {1, 2, -1}, {0, 1, 2, 0, 1, 2, 0, 1, 2},
		} {
			for name, got := range ofOrder(x, order...) {
				expect(t, name+" with "+what, got, failed(api.ErrRange))
			}
		}
		for _, two := range [][2]int{{0, 0}, {2, 2}, {0, 3}, {3, 0}, {-1, 1}, {1, -1}, {3, 3}, {-1, -1}, {0, 6}, {math.MinInt, 0}, {0, math.MaxInt}, {7, 8}} {
			expect(t, "Before with "+what, before(x, two[0], two[1]), failed(api.ErrRange))
		}
	}
	expect(t, "Before without a view", before(plain(0, 0), 0, 0), failed(api.ErrRange))
	expect(t, "Before with one view", before(plain(0, 1), 0, 0), failed(api.ErrRange))
	expect(t, "Before with a second view that is none", before(plain(0, 1), 0, 1), failed(api.ErrRange))
	expect(t, "Walked of a view that is none", walked(plain(0, 0), 0), failed(api.ErrRange))
}

func TestToursAtTheLimits(t *testing.T) {
	const last = api.MaxMinute
	long := plain(last, 6)
	for a := range 6 {
		long.From[a], long.Stay[a], long.Light[a] = span(0, last), span(0, last), span(last, last)
		for b := range 6 {
			long.Ways[a][b] = span(0, last)
		}
	}
	want := timed(last, 2*last, last, 4*last, last, 6*last, last, 8*last, last, 10*last, last, 12*last, last, 13*last)
	expect(t, "Times", times(long, 5, 4, 3, 2, 1, 0), want)
	expect(t, "Walked", walked(long, 5, 4, 3, 2, 1, 0), told(1))
	expect(t, "Late", late(long, 5, 4, 3, 2, 1, 0), fails(5, false))
	expect(t, "Tours", tours(long), told(0, 720))
	expect(t, "Shortest", shortest(long), failed(api.ErrNone))
	expect(t, "Most", most(long), listed())
	expect(t, "Before", before(long, 0, 5), failed(api.ErrNone))
	expect(t, "Later", later(long, 0), failed(api.ErrNone))
	long.From[3] = span(0, 0)
	expect(t, "Most with one that is sure", most(long), listed(3))
	expect(t, "Later of one that is sure", later(long, 3), told(0))
	free := plain(0, 6)
	expect(t, "Later of all views", later(free, 5, 4, 3, 2, 1, 0), told(last))
	expect(t, "Before", before(free, 5, 0), told(1))
	free.Light[5] = span(0, 0)
	free.From[0], free.From[1], free.From[2], free.From[3], free.From[4] = span(1, 1), span(0, 1), span(1, 1), span(1, last), span(1, 1)
	expect(t, "Before of the one that must be the first", before(free, 5, 0), told(2))
	expect(t, "Tours with one that must be the first", tours(free), told(120, 240))
	expect(t, "Shortest with one that must be the first", shortest(free), listed(5, 0, 1, 2, 3, 4))
}
