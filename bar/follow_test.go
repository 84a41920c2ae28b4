package bar_test

import (
	"math"
	"math/bits"
	"math/rand/v2"
	"slices"
	"testing"

	"pairworks/api"
)

// clone returns a bar with scenes of its own.
func clone(b api.Bar) api.Bar {
	b.Scenes = slices.Clone(b.Scenes)
	return b
}

// harder returns a bar that has one slot broken more, a narrower scene, less calm, or fewer pictures.
func harder(r *rand.Rand, b api.Bar) api.Bar {
	b = clone(b)
	kind := r.IntN(5)
	if kind > 1 && len(b.Scenes) == 0 {
		kind = r.IntN(2)
	}
	k := r.IntN(max(1, len(b.Scenes)))
	switch kind {
	case 0:
		b.Broken |= 1 << r.IntN(b.Slots)
	case 1:
		b.Most = max(0, b.Most-1)
	case 2:
		b.Scenes[k].Calm = max(0, b.Scenes[k].Calm-1)
	case 3:
		b.Scenes[k].Least += r.IntN(b.Scenes[k].Most - b.Scenes[k].Least + 1)
	case 4:
		b.Scenes[k].Most -= r.IntN(b.Scenes[k].Most - b.Scenes[k].Least + 1)
	}
	return b
}

func sizeOf(set int) int { return bits.OnesCount(uint(set)) }

// With less, no scene is taken that was not, no fewer pictures are enough, and no more plans take all.
func TestHarderBars(t *testing.T) {
	r := rand.New(rand.NewPCG(51, 52))
	for range 3000 {
		b := anyBar(r, 8)
		h := harder(r, b)
		for plan := range 1 << b.Slots {
			if now := taken(h, plan); now.e == api.OK && now.numbers[0]&^taken(b, plan).numbers[0] != 0 {
				t.Fatalf("the plan %b of %+v takes more than of %+v", plan, h, b)
			}
		}
		few, fewer := fewest(b), fewest(h)
		if fewer.e == api.OK && (few.e != api.OK || sizeOf(fewer.numbers[0]) < sizeOf(few.numbers[0])) {
			t.Fatalf("fewer pictures are enough for %+v than for %+v", h, b)
		}
		if count(h).numbers[0] > count(b).numbers[0] {
			t.Fatalf("more plans take all of %+v than of %+v", h, b)
		}
		if sizeOf(theMost(h).numbers[1]) > sizeOf(theMost(b).numbers[1]) {
			t.Fatalf("more scenes of %+v are taken than of %+v", h, b)
		}
	}
}

// No plan takes all with fewer slots than Fewest, none takes more than Most, and what is too much is so for each plan.
func TestNoPlanIsBetter(t *testing.T) {
	r := rand.New(rand.NewPCG(53, 54))
	for range 2000 {
		b := anyBar(r, 8)
		all := 1<<len(b.Scenes) - 1
		few, top, reason := fewest(b), theMost(b), why(b)
		tooMuch := [4]int{api.BarOne: 1 << reason.numbers[1], api.BarTwo: 1<<reason.numbers[1] | 1<<reason.numbers[2], api.BarAll: all}[reason.numbers[0]]
		if (few.e == api.OK) != (reason.e == api.OK) || (few.e == api.OK) != (top.numbers[1] == all) {
			t.Fatalf("it is not the same whether all of %+v can be taken", b)
		}
		for plan := range 1 << b.Slots {
			got := taken(b, plan)
			scenes := got.numbers[0]
			switch {
			case got.e != api.OK:
			case scenes == all && (few.e != api.OK || sizeOf(plan) < sizeOf(few.numbers[0])):
				t.Fatalf("the plan %b of %+v is fewer than %v", plan, b, few)
			case sizeOf(scenes) > sizeOf(top.numbers[1]):
				t.Fatalf("the plan %b of %+v takes more than %v", plan, b, top)
			case tooMuch != 0 && scenes&tooMuch == tooMuch:
				t.Fatalf("the plan %b of %+v takes what is too much: %v", plan, b, reason)
			}
		}
		if few.e == api.OK && taken(b, few.numbers[0]) != fine(all) {
			t.Fatalf("the fewest of %+v do not take all", b)
		}
		if taken(b, top.numbers[0]) != fine(top.numbers[1]) {
			t.Fatalf("the most of %+v are not taken", b)
		}
	}
}

// turned returns a set of slots, turned round, left for right.
func turned(b api.Bar, set int) int { return int(bits.Reverse64(uint64(set)) >> (64 - b.Slots)) }

// If the bar is turned round, as many plans do, and as many pictures are enough.
func TestTurnedBars(t *testing.T) {
	r := rand.New(rand.NewPCG(55, 56))
	for range 1000 {
		b := anyBar(r, 9)
		back := clone(b)
		back.Broken = turned(b, b.Broken)
		for plan := range 1 << b.Slots {
			expect(t, "Taken", taken(back, turned(b, plan)), taken(b, plan))
		}
		expect(t, "Count", count(back), count(b))
		expect(t, "Why", why(back), why(b))
		few, turn := fewest(b), fewest(back)
		if few.e != turn.e || sizeOf(few.numbers[0]) != sizeOf(turn.numbers[0]) {
			t.Errorf("Fewest: %v is turned to %v", few, turn)
		}
		uses := needed(b)
		expect(t, "Needed", needed(back), failed(uses.e, turned(b, uses.numbers[0]), turned(b, uses.numbers[1])))
		if sizeOf(theMost(back).numbers[1]) != sizeOf(theMost(b).numbers[1]) {
			t.Error("not as many scenes are taken")
		}
		if t.Failed() {
			t.Fatalf("of %+v", b)
		}
	}
}

// moved returns a set of scenes whose places are changed: the scene k comes from order[k].
func moved(order []int, scenes int) int {
	all := 0
	for k, from := range order {
		all |= scenes >> from & 1 << k
	}
	return all
}

// The order of the scenes makes no difference.
func TestOrder(t *testing.T) {
	r := rand.New(rand.NewPCG(57, 58))
	for range 1000 {
		b := anyBar(r, 8)
		other := clone(b)
		order := r.Perm(len(b.Scenes))
		for k, from := range order {
			other.Scenes[k] = b.Scenes[from]
		}
		expect(t, "Fewest", fewest(other), fewest(b))
		expect(t, "Count", count(other), count(b))
		expect(t, "Needed", needed(other), needed(b))
		top := theMost(b)
		expect(t, "Most", theMost(other), fine(top.numbers[0], moved(order, top.numbers[1])))
		expect(t, "Taken", taken(other, top.numbers[0]), fine(theMost(other).numbers[1]))
		for k, from := range order {
			expect(t, "Best", best(other, top.numbers[0], k), best(b, top.numbers[0], from))
		}
		if got, want := why(other), why(b); got.e != want.e || got.numbers[0] != want.numbers[0] {
			t.Errorf("Why depends on the order: %v, %v", got, want)
		}
		if t.Failed() {
			t.Fatalf("of %+v in the order %v", b, order)
		}
	}
}

// Arguments are only read, also behind the scenes, and the same call has the same result.
func TestArgumentsAreOnlyRead(t *testing.T) {
	r := rand.New(rand.NewPCG(59, 60))
	for range 300 {
		b := anyBar(r, 8)
		room := append(clone(b).Scenes, scene(1, 2, 3), scene(4, 5, 6))
		before := slices.Clone(room)
		b.Scenes = room[:len(b.Scenes)]
		first := everything(b, 1, 0)
		for name, again := range everything(b, 1, 0) {
			expect(t, name+", asked again", again, first[name])
		}
		if !slices.Equal(room, before) {
			t.Fatalf("%v was changed to %v", before, room)
		}
	}
	empty, none := plain(wants([]api.Scene{}...)), plain()
	for name, got := range everything(empty, 3, 0) {
		expect(t, name+" with an empty list", got, everything(none, 3, 0)[name])
	}
}

// Each function ends, and does not panic, whatever the numbers are.
func TestAnyNumbers(t *testing.T) {
	r := rand.New(rand.NewPCG(61, 62))
	number := func() int {
		return []int{math.MinInt, -1 << 32, -1, 0, 1, 2, 5, 15, 16, 17, 63, 64, 1000, 1001, 10000, 10001, 1<<16 - 1, 1 << 16, math.MaxInt}[r.IntN(19)]
	}
	for range 20000 {
		b := anyBar(r, 5)
		switch r.IntN(6) {
		case 0:
			b.Slots = number()
		case 1:
			b.Pitch = number()
		case 2:
			b.Broken = number()
		case 3:
			b.Most = number()
		case 4:
			b.Scenes = append(b.Scenes, scene(number(), number(), number()))
		}
		everything(b, number(), number())
	}
}
