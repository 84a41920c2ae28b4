package pair_test

import (
	"math/bits"
	"math/rand/v2"
	"slices"
	"testing"

	"pairworks/api"
)

// clone returns a pair with things of its own.
func clone(p api.Pair) api.Pair {
	p.Things = slices.Clone(p.Things)
	return p
}

// changed returns a pair with changed things.
func changed(p api.Pair, change func(*api.Thing)) api.Pair {
	p = clone(p)
	for k := range p.Things {
		change(&p.Things[k])
	}
	return p
}

// truth is what is true of a pair.
type truth struct {
	power     int
	distances []int // of each thing; 0: it moved
}

// trulyPair returns a truth, and a pair whose spans contain it.
func trulyPair(r *rand.Rand) (api.Pair, truth) {
	focal, base := 1+r.IntN(49000), 1+r.IntN(9900)
	p := api.Pair{Focal: around(r, focal, 50), Base: around(r, base, 3), Tilt: r.IntN(20), Near: 2000 + r.IntN(5000)}
	p.Focal.Lo, p.Base.Lo = max(1, p.Focal.Lo), max(1, p.Base.Lo)
	p.Far = min(api.MaxFar, p.Near+1+r.IntN(1<<r.IntN(30)))
	w := truth{power: p.Focal.Lo*p.Base.Lo + r.IntN(p.Focal.Hi*p.Base.Hi-p.Focal.Lo*p.Base.Lo+1)}
	for range r.IntN(13) {
		far := p.Near + r.IntN(p.Far-p.Near+1)
		n, tilt := w.power/far, r.IntN(2*p.Tilt+1)-p.Tilt
		far, n = stillOrMoved(r, far, n)
		left := r.IntN(1000) - 500
		wide := r.IntN(10)
		t := api.Thing{Left: place(around(r, left+n, wide), around(r, left, wide)), Right: place(around(r, left, wide), around(r, left+tilt, wide))}
		if far != 0 && r.IntN(4) == 0 {
			t.Far = far
		}
		p.Things = append(p.Things, t)
		w.distances = append(w.distances, far)
	}
	return p, w
}

// stillOrMoved returns the distance and the shift of a thing, or those of one that moved.
func stillOrMoved(r *rand.Rand, far, n int) (int, int) {
	if n > api.MaxShift || r.IntN(3) == 0 {
		return 0, r.IntN(3000) - 500
	}
	return far, n
}

func holds(s api.Span, n int) bool { return s.Lo <= n && n <= s.Hi }

// What is true is within all spans, and nothing is told that is not true.
func TestTruthsAreWithin(t *testing.T) {
	r := rand.New(rand.NewPCG(3, 4))
	for range 3000 {
		p, w := trulyPair(r)
		if got := power(p); got.e != api.OK || !holds(got.span, w.power) {
			t.Fatalf("Power of %v is %v, but it is %d", p, got, w.power)
		}
		moved := 0
		for k, far := range w.distances {
			if far == 0 {
				moved++
				continue
			}
			if got := stands(p, far); got.e != api.OK || !holds(got.span, w.power/far) {
				t.Fatalf("Stands of %v is %v, but the shift %d is true", p, got, w.power/far)
			}
			if got := distance(p, k); why(p, k) != number(0) || got.e != api.OK || !holds(got.span, far) {
				t.Fatalf("Distance of %d of %v is %v, but it is %d", k, p, got, far)
			}
			for j, other := range w.distances {
				if other != 0 && nearer(p, k, j) == number(api.PairAlways) && far >= other {
					t.Fatalf("%d of %v is not nearer than %d", k, p, j)
				}
			}
		}
		if got := fewest(p); got.e != api.OK || bits.OnesCount(uint(got.number)) > moved {
			t.Fatalf("Fewest of %v is %v, but %d things moved", p, got, moved)
		}
	}
}

// expectSame compares all that two pairs tell.
func expectSame(t *testing.T, what string, p, q api.Pair) {
	t.Helper()
	for k := range max(1, len(p.Things)) {
		got := everything(q, k, 0, p.Near)
		for name, want := range everything(p, k, 0, p.Near) {
			expect(t, what+": "+name, got[name], want)
		}
	}
}

func mirrored(s api.Span) api.Span { return span(-s.Hi, -s.Lo) }

func moved(s api.Span, n int) api.Span { return span(s.Lo+n, s.Hi+n) }

func TestMirror(t *testing.T) {
	r := rand.New(rand.NewPCG(5, 6))
	for range 500 {
		p, _ := trulyPair(r)
		n := r.IntN(200) - 100
		expectSame(t, "in a mirror", p, changed(p, func(x *api.Thing) {
			x.Left, x.Right = place(mirrored(x.Right.X), x.Right.Y), place(mirrored(x.Left.X), x.Left.Y)
		}))
		expectSame(t, "moved to one side", p, changed(p, func(x *api.Thing) {
			x.Left.X, x.Right.X = moved(x.Left.X, n), moved(x.Right.X, n)
		}))
		expectSame(t, "moved up", p, changed(p, func(x *api.Thing) {
			x.Left.Y, x.Right.Y = moved(x.Left.Y, n), moved(x.Right.Y, n)
		}))
	}
}

// within returns whether a result tells no less than a wider one, as far as both tell a span.
func within(narrow, wide outcome) bool {
	return narrow.e != api.OK || wide.e == api.OK && wide.span.Lo <= narrow.span.Lo && narrow.span.Hi <= wide.span.Hi
}

// expectNarrower compares all that a pair tells with what it tells if more of it is known.
func expectNarrower(t *testing.T, wide, narrow api.Pair) {
	t.Helper()
	known := power(narrow)
	if known.e == api.ErrNone {
		return
	}
	if !within(known, power(wide)) || !within(stands(narrow, wide.Near), stands(wide, wide.Near)) {
		t.Errorf("the power of %v is not within that of %v", narrow, wide)
	}
	for k := range wide.Things {
		if !within(shift(narrow, k), shift(wide, k)) || !within(distance(narrow, k), distance(wide, k)) {
			t.Errorf("the thing %d of %v is not within that of %v", k, narrow, wide)
		}
	}
	few, fewer := fewest(narrow), fewest(wide)
	if bits.OnesCount(uint(few.number)) < bits.OnesCount(uint(fewer.number)) {
		t.Errorf("fewer things of %v moved than of %v", narrow, wide)
	}
}

// part returns a part of a span.
func part(r *rand.Rand, s api.Span) api.Span {
	lo := s.Lo + r.IntN(s.Hi-s.Lo+1)
	return span(lo, lo+r.IntN(s.Hi-lo+1))
}

func TestNarrower(t *testing.T) {
	r := rand.New(rand.NewPCG(7, 8))
	for range 1500 {
		p, w := trulyPair(r)
		q := clone(p)
		switch r.IntN(4) {
		case 0:
			q.Focal = part(r, q.Focal)
		case 1:
			q.Base = part(r, q.Base)
		case 2:
			q = changed(q, func(x *api.Thing) {
				x.Left = place(part(r, x.Left.X), part(r, x.Left.Y))
				x.Right = place(part(r, x.Right.X), part(r, x.Right.Y))
			})
		case 3:
			for k, far := range w.distances {
				if far != 0 && r.IntN(2) == 0 {
					q.Things[k].Far = far
				}
			}
		}
		expectNarrower(t, p, q)
	}
}

// The order of the things makes no difference.
func TestOrder(t *testing.T) {
	r := rand.New(rand.NewPCG(9, 10))
	for range 500 {
		p, _ := trulyPair(r)
		q := clone(p)
		order := r.Perm(len(p.Things))
		for k, from := range order {
			q.Things[k] = p.Things[from]
		}
		expect(t, "Power", power(q), power(p))
		expect(t, "Stands", stands(q, p.Far), stands(p, p.Far))
		for k, from := range order {
			expect(t, "Shift", shift(q, k), shift(p, from))
			expect(t, "Why", why(q, k), why(p, from))
			expect(t, "Distance", distance(q, k), distance(p, from))
		}
		if bits.OnesCount(uint(fewest(q).number)) != bits.OnesCount(uint(fewest(p).number)) {
			t.Errorf("Fewest of %v depends on the order", p)
		}
	}
}

// Arguments are only read, and the same call has the same result.
func TestArgumentsAreOnlyRead(t *testing.T) {
	r := rand.New(rand.NewPCG(11, 12))
	for range 200 {
		p, _ := trulyPair(r)
		before := clone(p)
		expectSame(t, "asked again", p, p)
		if !slices.Equal(p.Things, before.Things) {
			t.Fatalf("%v was changed to %v", before, p)
		}
	}
	// Room behind the things is not theirs to be written to.
	room := sample().Things
	p := sample()
	p.Things = room[:2]
	everything(p, 0, 1, 3000)
	if !slices.Equal(room, sample().Things) {
		t.Error("things behind those of the pair were changed")
	}
}

// Each function ends, and does not panic, whatever the numbers are.
func TestAnyNumbers(t *testing.T) {
	r := rand.New(rand.NewPCG(13, 14))
	number := func() int {
		return []int{-1 << 63, -4001, -4000, -1, 0, 1, 2, 1999, 2000, 2001, 4000, 10000, 50000, 1 << 30, 1<<63 - 1}[r.IntN(15)]
	}
	any := func() api.Span { return span(number(), number()) }
	for range 20000 {
		p := api.Pair{Focal: any(), Base: any(), Tilt: number(), Near: number(), Far: number()}
		if r.IntN(2) == 0 {
			p.Focal, p.Base, p.Tilt, p.Near, p.Far = span(1, 2), span(1, 1), 0, 2000, 1<<30
		}
		for range r.IntN(15) {
			x := at(r.IntN(4000), 4000)
			if r.IntN(8) == 0 {
				x = api.Thing{Left: place(any(), any()), Right: place(any(), any()), Far: number()}
			}
			p.Things = append(p.Things, x)
		}
		everything(p, number(), number(), number())
	}
}
