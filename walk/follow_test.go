package walk_test

import (
	"math"
	"math/rand/v2"
	"slices"
	"testing"

	"pairworks/api"
	"pairworks/walk"
)

// anyOrder returns an order of some of so many views.
func anyOrder(r *rand.Rand, views int) []int { return r.Perm(views)[:r.IntN(views+1)] }

// roomy returns many views, most of which have light for long.
func roomy(r *rand.Rand) api.Tour {
	x := anyTour(r, api.MaxWalkViews, 600, r.IntN(90))
	for k := range x.Light {
		if r.IntN(2) == 0 {
			x.Light[k].Hi = max(x.Light[k].Lo, min(api.MaxMinute, x.Dawn+200+r.IntN(600)))
		}
	}
	return x
}

// drawn returns a number of a span.
func drawn(r *rand.Rand, s api.Span) int { return s.Lo + r.IntN(s.Hi-s.Lo+1) }

// truly returns one truth of an order.
func truly(r *rand.Rand, x api.Tour, order []int) (w truth, walked bool) {
	w.over, walked = x.Dawn, true
	roads := x.From
	for _, view := range order {
		begin := max(w.over+drawn(r, roads[view]), x.Light[view].Lo)
		w.begin = append(w.begin, begin)
		w.over = begin + drawn(r, x.Stay[view])
		walked = walked && begin <= x.Light[view].Hi
		roads = x.Ways[view]
	}
	return w, walked
}

func holds(s api.Span, n int) bool { return s.Lo <= n && n <= s.Hi }

// However long ways and stays truly take, one is where it is told, and an order is walked as it is told.
func TestTrueWalks(t *testing.T) {
	r := rand.New(rand.NewPCG(125, 126))
	n := kinds{}
	for range 5000 {
		x := roomy(r)
		order := anyOrder(r, len(x.From))
		told, sure, missed := times(x, order...), walked(x, order...), late(x, order...)
		if told.e != api.OK || sure.e != api.OK || len(told.begin) != len(order) {
			t.Fatalf("%v and %v are told of %v of %+v", told, sure, order, x)
		}
		if len(order) > 1 {
			n[of("Walked", sure)]++
		}
		for range 10 {
			w, inTime := truly(r, x, order)
			if !holds(told.over, w.over) {
				t.Fatalf("%v of %+v is over at %d, but %v is told", order, x, w.over, told)
			}
			for k, begin := range w.begin {
				if !holds(told.begin[k], begin) {
					t.Fatalf("one begins at %d at %d in %v of %+v, but %v is told", begin, order[k], order, x, told)
				}
			}
			if sure.numbers[0] == api.WalkAlways && !inTime || sure.numbers[0] == api.WalkNever && inTime {
				t.Fatalf("%v is told of %v of %+v, but it is not so in the truth %v", sure, order, x, w)
			}
			if missed.surely && w.begin[slices.Index(order, missed.numbers[0])] <= x.Light[missed.numbers[0]].Hi {
				t.Fatalf("one is in time at the view %d of %v of %+v", missed.numbers[0], order, x)
			}
		}
		if (missed.e == api.ErrNone) != (sure.numbers[0] == api.WalkAlways) || missed.surely && sure.numbers[0] != api.WalkNever {
			t.Fatalf("%v and %v are told of %v of %+v", sure, missed, order, x)
		}
	}
	n.need(t, 200, "Walked never", "Walked perhaps", "Walked always")
}

// No sure tour of the same views takes less time than the shortest one, and no sure order has more views than the one with the most.
func TestNoTourIsShorter(t *testing.T) {
	r := rand.New(rand.NewPCG(127, 128))
	found := 0
	for range 1000 {
		x := roomy(r)
		best, many := shortest(x), most(x)
		if (best.e == api.OK) != (len(many.order) == len(x.From)) || best.e == api.OK && !slices.Equal(best.order, many.order) {
			t.Fatalf("%v and %v are told of %+v", best, many, x)
		}
		expect(t, "Walked of the most views", walked(x, many.order...), told(api.WalkAlways))
		over := times(x, many.order...).over.Hi
		for range 40 {
			order := anyOrder(r, len(x.From))
			if walked(x, order...).numbers[0] != api.WalkAlways || len(order) < len(many.order) {
				continue
			}
			found++
			if other := times(x, order...).over.Hi; len(order) > len(many.order) || other < over || other == over && slices.Compare(order, many.order) < 0 {
				t.Fatalf("%v is better than %v of %+v", order, many.order, x)
			}
		}
		if t.Failed() {
			t.Fatalf("of %+v", x)
		}
	}
	if found < 1000 {
		t.Errorf("just %d orders", found)
	}
}

// A part of a sure order that begins with its first view is sure, too.
func TestPartsOfSureOrders(t *testing.T) {
	r := rand.New(rand.NewPCG(129, 130))
	parts := 0
	for range 3000 {
		x := roomy(r)
		order := anyOrder(r, len(x.From))
		if walked(x, order...).numbers[0] != api.WalkAlways {
			continue
		}
		whole := times(x, order...)
		for long := range len(order) {
			parts++
			expect(t, "Walked of a part", walked(x, order[:long]...), told(api.WalkAlways))
			expect(t, "Times of a part", times(x, order[:long]...).begin, orNil(whole.begin[:long]))
		}
	}
	if parts < 1000 {
		t.Errorf("just %d parts", parts)
	}
}

// leaving returns views to which one leaves later.
func leaving(x api.Tour, minutes int) api.Tour {
	x.Dawn += minutes
	return x
}

// If one leaves as much later as is told the order is sure, and a minute later it is not.
func TestLeavingAsLateAsTold(t *testing.T) {
	r := rand.New(rand.NewPCG(131, 132))
	n := kinds{}
	for range 4000 {
		x := roomy(r)
		order := anyOrder(r, len(x.From))
		o := later(x, order...)
		minutes := o.numbers[0]
		switch {
		case o.e == api.ErrNone:
			if walked(x, order...).numbers[0] == api.WalkAlways {
				t.Fatalf("%v of %+v is sure, but nothing is told", order, x)
			}
			n["not sure"]++
			continue
		case walked(leaving(x, minutes), order...).numbers[0] != api.WalkAlways:
			t.Fatalf("%v of %+v is not sure if one leaves by %d minutes later", order, x, minutes)
		case x.Dawn+minutes == api.MaxMinute:
			n["at the last minute"]++
		case x.Dawn+minutes > api.MaxMinute || walked(leaving(x, minutes+1), order...).numbers[0] == api.WalkAlways:
			t.Fatalf("one can leave for %v of %+v by more than %d minutes later", order, x, minutes)
		default:
			n["before it"]++
		}
		if minutes > 0 {
			expect(t, "Later, if one leaves a minute later", later(leaving(x, 1), order...), told(minutes-1))
		}
	}
	n.need(t, 100, "not sure", "before it", "at the last minute")
}

// If one leaves later no order is more sure, and one is nowhere earlier.
func TestLeavingLater(t *testing.T) {
	r := rand.New(rand.NewPCG(133, 134))
	less := 0
	for range 1000 {
		x := roomy(r)
		y := leaving(x, r.IntN(min(200, api.MaxMinute-x.Dawn)+1))
		one, other := tours(x), tours(y)
		if other.e != api.OK || other.numbers[0] > one.numbers[0] || other.numbers[1] > one.numbers[1] {
			t.Fatalf("%v of %+v are tours, but %v if one leaves at %d", one, x, other, y.Dawn)
		}
		for range 20 {
			order := anyOrder(r, len(x.From))
			before, after := walked(x, order...), walked(y, order...)
			if after.e != api.OK || after.numbers[0] > before.numbers[0] || earlier(times(y, order...), times(x, order...)) {
				t.Fatalf("%v of %+v is more sure, or earlier, if one leaves at %d", order, x, y.Dawn)
			}
			if after.numbers[0] < before.numbers[0] {
				less++
			}
		}
	}
	if less < 1000 {
		t.Errorf("just %d orders are less sure", less)
	}
}

// earlier returns whether one is somewhere earlier, as one outcome tells, than as another one does.
func earlier(o, other outcome) bool {
	for k, s := range append(o.begin, o.over) {
		if since := append(other.begin, other.over)[k]; s.Lo < since.Lo || s.Hi < since.Hi {
			return true
		}
	}
	return false
}

// narrowed returns a span within a span.
func narrowed(r *rand.Rand, s api.Span) api.Span {
	if r.IntN(2) == 0 {
		return s
	}
	lo := drawn(r, s)
	return span(lo, drawn(r, span(lo, s.Hi)))
}

// narrower returns views with narrower spans of ways and stays.
func narrower(r *rand.Rand, x api.Tour) api.Tour {
	x = clone(x)
	for a := range x.From {
		x.From[a], x.Stay[a] = narrowed(r, x.From[a]), narrowed(r, x.Stay[a])
		for b := range x.From {
			x.Ways[a][b] = narrowed(r, x.Ways[a][b])
		}
	}
	return x
}

// lighter returns views with wider light.
func lighter(r *rand.Rand, x api.Tour) api.Tour {
	x = clone(x)
	for a, s := range x.Light {
		if r.IntN(2) == 0 {
			x.Light[a] = span(r.IntN(s.Lo+1), s.Hi+r.IntN(min(50, api.MaxMinute-s.Hi)+1))
		}
	}
	return x
}

// isWithin returns whether each time that one outcome tells is within that of another one.
func isWithin(o, wide outcome) bool {
	for k, s := range append(o.begin, o.over) {
		if w := append(wide.begin, wide.over)[k]; s.Lo < w.Lo || s.Hi > w.Hi {
			return false
		}
	}
	return true
}

// With narrower spans of ways and stays no sure order is less sure, none that is never walked is more so, there are no fewer sure tours, and no time is wider.
func TestNarrowerSpans(t *testing.T) {
	r := rand.New(rand.NewPCG(135, 136))
	more := kinds{}
	for range 1500 {
		x := roomy(r)
		y := narrower(r, x)
		for range 20 {
			order := anyOrder(r, len(x.From))
			before, after := walked(x, order...), walked(y, order...)
			if before.numbers[0] != api.WalkPerhaps && after.numbers[0] != before.numbers[0] {
				t.Fatalf("%v of %+v has %v, but of %+v it has %v", order, x, before, y, after)
			}
			if after.numbers[0] > before.numbers[0] {
				more["orders"]++
			}
			if !isWithin(times(y, order...), times(x, order...)) {
				t.Fatalf("the times of %v of %+v are not within those of %+v", order, y, x)
			}
		}
		one, other := tours(x), tours(y)
		if other.numbers[0] < one.numbers[0] || other.numbers[1] > one.numbers[1] || len(most(y).order) < len(most(x).order) {
			t.Fatalf("%v of %+v are tours, but %v of %+v", one, x, other, y)
		}
		if other.numbers[0] > one.numbers[0] {
			more["tours"]++
		}
	}
	more.need(t, 100, "orders", "tours")
}

// With a wider light no order is less sure, and there are no fewer tours.
func TestWiderLight(t *testing.T) {
	r := rand.New(rand.NewPCG(137, 138))
	more := kinds{}
	for range 1500 {
		x := roomy(r)
		y := lighter(r, x)
		for range 20 {
			order := anyOrder(r, len(x.From))
			before, after := walked(x, order...), walked(y, order...)
			if after.numbers[0] < before.numbers[0] {
				t.Fatalf("%v of %+v is more sure than of %+v", order, x, y)
			}
			if after.numbers[0] > before.numbers[0] {
				more["orders"]++
			}
			if o := later(x, order...); o.e == api.OK && later(y, order...).numbers[0] < o.numbers[0] {
				t.Fatalf("one can leave later for %v of %+v than of %+v", order, x, y)
			}
		}
		one, other := tours(x), tours(y)
		if other.numbers[0] < one.numbers[0] || other.numbers[1] < one.numbers[1] || len(most(y).order) < len(most(x).order) {
			t.Fatalf("%v of %+v are tours, but %v of %+v", one, x, other, y)
		}
		if other.numbers[0] > one.numbers[0] {
			more["tours"]++
		}
	}
	more.need(t, 100, "orders", "tours")
}

// renumbered returns views of which the view k has the number number[k].
func renumbered(x api.Tour, number []int) api.Tour {
	y := clone(x)
	for a := range x.From {
		y.From[number[a]], y.Stay[number[a]], y.Light[number[a]] = x.From[a], x.Stay[a], x.Light[a]
		for b := range x.From {
			y.Ways[number[a]][number[b]] = x.Ways[a][b]
		}
	}
	return y
}

// If views are numbered otherwise, nothing changes but numbers.
func TestRenumberedViews(t *testing.T) {
	r := rand.New(rand.NewPCG(139, 140))
	for range 400 {
		x := roomy(r)
		number := r.Perm(len(x.From))
		y := renumbered(x, number)
		order := anyOrder(r, len(x.From))
		var other []int
		for _, view := range order {
			other = append(other, number[view])
		}
		for name, want := range ofOrder(x, order...) {
			if name == "Late" && want.e == api.OK {
				want.numbers[0] = number[want.numbers[0]]
			}
			expect(t, name, ofOrder(y, other...)[name], want)
		}
		expect(t, "Tours", tours(y), tours(x))
		expect(t, "the error of Shortest", shortest(y).e, shortest(x).e)
		expect(t, "how many views are the most", len(most(y).order), len(most(x).order))
		expect(t, "when the most views are over", times(y, most(y).order...).over.Hi, times(x, most(x).order...).over.Hi)
		for a := range number {
			for b := range number {
				if a != b {
					expect(t, "Before", before(y, number[a], number[b]), before(x, a, b))
				}
			}
		}
		if t.Failed() {
			t.Fatalf("of %+v by %v", x, number)
		}
	}
}

// Of two views one comes first, whichever of them is asked about.
func TestBeforeFromBothSides(t *testing.T) {
	r := rand.New(rand.NewPCG(141, 142))
	for range 400 {
		x := roomy(r)
		for a := range x.From {
			for b := range a {
				want, got := before(x, a, b), before(x, b, a)
				if want.e == api.OK {
					want.numbers[0] = api.WalkAlways - want.numbers[0]
				}
				expect(t, "Before, turned", got, want)
			}
		}
	}
}

// behind returns a list with the same spans, and a span behind them in its memory.
func behind(list []api.Span) []api.Span {
	return append(slices.Clone(list), span(77, 78), span(79, 80))[:len(list)]
}

// Arguments are only read, also behind what they contain; the same call has the same result.
func TestArgumentsAreOnlyRead(t *testing.T) {
	r := rand.New(rand.NewPCG(143, 144))
	for range 500 {
		x := roomy(r)
		x.From, x.Stay, x.Light = behind(x.From), behind(x.Stay), behind(x.Light)
		for k, list := range x.Ways {
			x.Ways[k] = behind(list)
		}
		x.Ways = append(x.Ways, spans(1, 2), spans(3, 4))[:len(x.From)]
		order := append(anyOrder(r, len(x.From)), 5, 4, 3)
		order = order[:len(order)-3]
		same, orderOnce := clone(x), slices.Clone(order[:len(order)+3])
		once := everything(x, 0, len(x.From)-1, order...)
		for name, again := range everything(x, 0, len(x.From)-1, order...) {
			expect(t, name+", asked again", again, once[name])
		}
		expect(t, "the views", x, same)
		expect(t, "the order", order[:len(order)+3], orderOnce)
		for _, list := range append([][]api.Span{x.From, x.Stay, x.Light}, x.Ways...) {
			expect(t, "what is behind spans", list[len(list):len(list)+2], spans(77, 78, 79, 80))
		}
		expect(t, "what is behind ways", x.Ways[len(x.From):len(x.From)+2], [][]api.Span{spans(1, 2), spans(3, 4)})
	}
}

// Results are new memory.
func TestResultsAreNew(t *testing.T) {
	x := plain(400, 6)
	order := []int{5, 4, 3, 2, 1, 0}
	begin, _, _ := walk.Times(x, order)
	short, _ := walk.Shortest(x)
	many, _ := walk.Most(x)
	for k := range order {
		begin[k], short[k], many[k] = span(9, 9), 9, 8
	}
	expect(t, "the views", x, plain(400, 6))
	expect(t, "the order", order, []int{5, 4, 3, 2, 1, 0})
	expect(t, "Shortest", shortest(x), listed(0, 1, 2, 3, 4, 5))
	expect(t, "the shortest tour", short, []int{9, 9, 9, 9, 9, 9})
	expect(t, "Times", times(x, order...).begin, exact(400, 400, 400, 400, 400, 400))
}

// A nil list and an empty one are the same value.
func TestNilAndEmpty(t *testing.T) {
	empty := api.Tour{Dawn: 9, From: []api.Span{}, Ways: [][]api.Span{}, Stay: []api.Span{}, Light: []api.Span{}}
	want := everything(api.Tour{Dawn: 9}, 0, 1)
	for name, got := range everything(empty, 0, 1, []int{}...) {
		expect(t, name, got, want[name])
	}
	for _, order := range [][]int{nil, {}} {
		expect(t, "Walked", walked(sample(), order...), told(api.WalkAlways))
		expect(t, "Times", times(sample(), order...), timed(360, 360))
		expect(t, "Late", late(sample(), order...), failed(api.ErrNone))
		expect(t, "Later", later(sample(), order...), told(1080))
	}
}

// No call panics, whatever it is given, and with an error all other results are zero.
func TestAnyNumbers(t *testing.T) {
	r := rand.New(rand.NewPCG(145, 146))
	numbers := []int{math.MinInt, -1, 0, 1, 2, 5, 6, 7, api.MaxMinute, api.MaxMinute + 1, math.MaxInt}
	any := func() int { return numbers[r.IntN(len(numbers))] }
	errors := map[api.Errno]int{}
	for range 3000 {
		x := roomy(r)
		for range r.IntN(3) {
			wild := span(any(), any())
			if r.IntN(4) > 0 {
				wild = span(min(wild.Lo, wild.Hi), max(wild.Lo, wild.Hi))
			}
			lists := append([][]api.Span{x.From, x.Stay, x.Light}, x.Ways...)
			if list := lists[r.IntN(len(lists))]; len(list) > 0 {
				list[r.IntN(len(list))] = wild
			}
		}
		if r.IntN(10) == 0 {
			x.Dawn = any()
		}
		if r.IntN(10) == 0 {
			x.Stay = make([]api.Span, r.IntN(8))
		}
		order := anyOrder(r, len(x.From))
		if r.IntN(3) == 0 {
			order = append(order, any())
		}
		for name, got := range everything(x, any(), any(), order...) {
			errors[got.e]++
			if got.e != api.OK {
				expect(t, name, got, failed(got.e))
			}
		}
	}
	for _, e := range []api.Errno{api.OK, api.ErrArg, api.ErrRange, api.ErrNone} {
		if errors[e] < 500 {
			t.Errorf("just %d calls with the error %d", errors[e], e)
		}
	}
	if len(errors) != 4 {
		t.Errorf("there are other errors: %v", errors)
	}
}
