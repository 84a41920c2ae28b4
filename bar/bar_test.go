package bar_test

import (
	"math"
	"testing"

	"pairworks/api"
	"pairworks/bar"
)

// set returns a set, by bits.
func set(list ...int) int {
	all := 0
	for _, k := range list {
		all |= 1 << k
	}
	return all
}

func scene(least, most, calm int) api.Scene { return api.Scene{Least: least, Most: most, Calm: calm} }

// change changes a bar.
type change func(b *api.Bar)

func changed(b api.Bar, changes ...change) api.Bar {
	for _, f := range changes {
		f(&b)
	}
	return b
}

func slots(n int) change             { return func(b *api.Bar) { b.Slots = n } }
func pitch(n int) change             { return func(b *api.Bar) { b.Pitch = n } }
func broken(list ...int) change      { return func(b *api.Bar) { b.Broken = set(list...) } }
func most(n int) change              { return func(b *api.Bar) { b.Most = n } }
func wants(list ...api.Scene) change { return func(b *api.Bar) { b.Scenes = list } }

// sample returns the bar of the chapter's examples, changed.
func sample(changes ...change) api.Bar {
	return changed(api.Bar{Slots: 8, Pitch: 30, Broken: set(3), Most: 4, Scenes: []api.Scene{
		scene(60, 70, 1), scene(85, 130, 0), scene(200, 230, 2),
	}}, changes...)
}

// plain returns a bar with 6 slots, 10 millimetres apart, all of which can be used, changed.
func plain(changes ...change) api.Bar {
	return changed(api.Bar{Slots: 6, Pitch: 10, Most: 6}, changes...)
}

// outcome is all results of a call.
type outcome struct {
	numbers [3]int
	e       api.Errno
}

func fine(numbers ...int) outcome {
	var o outcome
	copy(o.numbers[:], numbers)
	return o
}

func failed(e api.Errno, numbers ...int) outcome {
	o := fine(numbers...)
	o.e = e
	return o
}

func taken(b api.Bar, plan int) outcome {
	scenes, e := bar.Taken(b, plan)
	return failed(e, scenes)
}

func best(b api.Bar, plan, scene int) outcome {
	left, right, e := bar.Best(b, plan, scene)
	return failed(e, left, right)
}

func fewest(b api.Bar) outcome {
	plan, e := bar.Fewest(b)
	return failed(e, plan)
}

func count(b api.Bar) outcome {
	n, e := bar.Count(b)
	return failed(e, n)
}

func needed(b api.Bar) outcome {
	all, some, e := bar.Needed(b)
	return failed(e, all, some)
}

func theMost(b api.Bar) outcome {
	plan, scenes, e := bar.Most(b)
	return failed(e, plan, scenes)
}

func why(b api.Bar) outcome {
	kind, first, second, e := bar.Why(b)
	return failed(e, kind, first, second)
}

// everything calls each function, and returns what it does.
func everything(b api.Bar, plan, scene int) map[string]outcome {
	return map[string]outcome{
		"Taken": taken(b, plan), "Best": best(b, plan, scene), "Fewest": fewest(b), "Count": count(b),
		"Needed": needed(b), "Most": theMost(b), "Why": why(b),
	}
}

// withPlan is the functions that take a plan.
func withPlan(name string) bool { return name == "Taken" || name == "Best" }

func expect(t *testing.T, what string, got, want outcome) {
	t.Helper()
	if got != want {
		t.Errorf("%s: got %v, want %v", what, got, want)
	}
}

func TestExamples(t *testing.T) {
	b, four := sample(), set(0, 2, 4, 7)
	expect(t, "Taken of 0 2 7", taken(b, set(0, 2, 7)), fine(set(0, 2)))
	expect(t, "Taken of 0 2 4 7", taken(b, four), fine(set(0, 1, 2)))
	expect(t, "Best of the scene 0", best(b, four, 0), fine(0, 2))
	expect(t, "Best of the scene 1", best(b, four, 1), fine(4, 7))
	expect(t, "Best of the scene 2", best(b, four, 2), fine(0, 7))
	expect(t, "Fewest", fewest(b), fine(four))
	expect(t, "Count", count(b), fine(6))
	expect(t, "Needed", needed(b), fine(set(0, 7), set(0, 1, 2, 4, 5, 6, 7)))
	expect(t, "Why", why(b), fine())
	expect(t, "Most", theMost(b), fine(four, set(0, 1, 2)))
	expect(t, "Most with Most 3", theMost(sample(most(3))), fine(set(0, 2, 5), set(0, 1)))
	expect(t, "Why with Most 3", why(sample(most(3))), failed(api.ErrRefuse, api.BarAll, 0, 0))
	expect(t, "Why with Most 1", why(sample(most(1))), failed(api.ErrRefuse, api.BarOne, 0, 0))
	expect(t, "Why with the slot 7 broken", why(sample(broken(3, 7))), failed(api.ErrRefuse, api.BarOne, 2, 0))
}

func TestTaken(t *testing.T) {
	for _, x := range []struct {
		what string
		b    api.Bar
		plan int
		want int
	}{
		{"no scene", plain(), set(0, 2), 0},
		{"no slot", plain(wants(scene(0, 10000, 16))), 0, 0},
		{"one slot alone", plain(wants(scene(0, 10000, 16))), set(3), 0},
		{"a slot is no pair with itself", plain(wants(scene(0, 0, 16))), set(0, 1, 2), 0},
		{"just the base", plain(wants(scene(20, 20, 0))), set(0, 2), set(0)},
		{"just the least base", plain(wants(scene(20, 29, 0))), set(1, 3), set(0)},
		{"just the greatest base", plain(wants(scene(11, 20, 0))), set(1, 3), set(0)},
		{"too narrow", plain(wants(scene(21, 29, 0))), set(1, 3), 0},
		{"too wide", plain(wants(scene(11, 19, 0))), set(1, 3), 0},
		{"a base between two widths", plain(wants(scene(21, 29, 16))), set(0, 1, 2, 3, 4, 5), 0},
		{"the first and the last slot", plain(wants(scene(50, 50, 0))), set(0, 5), set(0)},
		{"one slot between", plain(wants(scene(20, 20, 0))), set(0, 1, 2), 0},
		{"one slot between, with more calm", plain(wants(scene(20, 20, 1))), set(0, 1, 2), set(0)},
		{"two slots between", plain(wants(scene(30, 30, 1))), set(0, 1, 2, 3), 0},
		{"two slots between, with more calm", plain(wants(scene(30, 30, 2))), set(0, 1, 2, 3), set(0)},
		{"slots between that are not used", plain(wants(scene(50, 50, 1))), set(0, 3, 5), set(0)},
		{"slots between that are broken", plain(wants(scene(30, 30, 0)), broken(1, 2)), set(0, 3), set(0)},
		{"slots to both sides", plain(wants(scene(20, 20, 0))), set(0, 1, 3, 4), set(0)},
		{"other slots are free of others", plain(wants(scene(20, 20, 0))), set(0, 1, 2, 4), set(0)},
		{"a greater pitch", plain(wants(scene(20, 20, 0)), pitch(20)), set(2, 3), set(0)},
		{"a lesser pitch", plain(wants(scene(3, 3, 0)), pitch(1)), set(2, 5), set(0)},
		{"some of several", plain(wants(scene(10, 10, 0), scene(20, 20, 0), scene(30, 30, 0), scene(30, 30, 1))), set(0, 1, 3), set(0, 1, 3)},
		{"the same scene twice", plain(wants(scene(20, 20, 0), scene(20, 20, 0))), set(0, 2), set(0, 1)},
		{"as many slots as can be", plain(wants(scene(20, 20, 0)), most(2)), set(0, 2), set(0)},
	} {
		expect(t, x.what, taken(x.b, x.plan), fine(x.want))
	}
}

func TestBest(t *testing.T) {
	none := failed(api.ErrNone)
	for _, x := range []struct {
		what  string
		scene api.Scene
		plan  int
		want  outcome
	}{
		{"the only one", scene(20, 20, 0), set(1, 3), fine(1, 3)},
		{"from the slot 0 on", scene(10, 10, 0), set(0, 1), fine(0, 1)},
		{"fewer between rather than farther apart", scene(20, 40, 2), set(0, 2, 3), fine(0, 2)},
		{"fewer between rather than farther to the left", scene(20, 20, 2), set(0, 1, 2, 4), fine(2, 4)},
		{"fewer between, none with none", scene(30, 50, 3), set(0, 1, 2, 3, 5), fine(2, 5)},
		{"farther apart rather than farther to the left", scene(10, 40, 2), set(0, 1, 4), fine(1, 4)},
		{"farther apart, and to the left", scene(10, 40, 2), set(1, 4, 5), fine(1, 4)},
		{"farther to the left", scene(20, 20, 2), set(1, 3, 5), fine(1, 3)},
		{"one between rather than two", scene(30, 40, 2), set(0, 2, 3, 4), fine(0, 3)},
		{"with others between", scene(30, 30, 2), set(0, 1, 2, 3), fine(0, 3)},
		{"too many between", scene(30, 30, 1), set(0, 1, 2, 3), none},
		{"too narrow", scene(30, 40, 2), set(0, 1, 2), none},
		{"no slot", scene(0, 10000, 16), 0, none},
	} {
		expect(t, x.what, best(plain(wants(x.scene)), x.plan, 0), x.want)
		expect(t, x.what+", behind another scene", best(plain(wants(scene(0, 10000, 16), x.scene)), x.plan, 1), x.want)
	}
}

// sparse returns a bar on which the widths 10 and 40 need three slots that are far to the right, or four that are not.
func sparse() api.Bar {
	return plain(slots(16), most(16), broken(2, 4, 5, 6, 8, 9, 12, 13, 14), wants(scene(10, 10, 16), scene(40, 40, 16)))
}

func TestFewest(t *testing.T) {
	none := failed(api.ErrRefuse)
	both := wants(scene(20, 20, 0), scene(30, 30, 0))
	calm := wants(scene(20, 20, 1), scene(30, 30, 1))
	for _, x := range []struct {
		what string
		b    api.Bar
		want outcome
	}{
		{"no scene", plain(), fine(0)},
		{"no scene, and no picture", plain(most(0)), fine(0)},
		{"one scene", plain(wants(scene(20, 20, 0))), fine(set(0, 2))},
		{"one scene, with a slot that is broken", plain(wants(scene(20, 20, 0)), broken(0)), fine(set(1, 3))},
		{"two scenes side by side", plain(both), fine(set(0, 2, 5))},
		{"two scenes, one in the other", plain(calm), fine(set(0, 1, 3))},
		{"just as many as can be", plain(calm, most(3)), fine(set(0, 1, 3))},
		{"more than can be", plain(calm, most(2)), none},
		{"no picture", plain(wants(scene(20, 20, 0)), most(0)), none},
		{"no base", plain(wants(scene(0, 0, 16))), none},
		{"a base between two widths", plain(wants(scene(21, 29, 16))), none},
		{"a bar that is too short", plain(wants(scene(60, 60, 16))), none},
		{"all slots broken", plain(wants(scene(0, 10000, 16)), broken(0, 1, 2, 3, 4, 5)), none},
		{"all slots broken, and no scene", plain(broken(0, 1, 2, 3, 4, 5)), fine(0)},
		{"one slot", plain(slots(1), wants(scene(0, 10000, 16))), none},
		{"fewer slots rather than a lesser number", sparse(), fine(set(7, 10, 11))},
	} {
		expect(t, x.what, fewest(x.b), x.want)
	}
	if taken(sparse(), set(0, 1, 3, 7)) != fine(set(0, 1)) {
		t.Error("a lesser number has to take both scenes, too")
	}
}

func TestCount(t *testing.T) {
	for _, x := range []struct {
		what string
		b    api.Bar
		want int
	}{
		{"no scene: all plans", plain(), 64},
		{"at most 2 slots", plain(most(2)), 1 + 6 + 15},
		{"at most 16 slots", plain(most(16)), 64},
		{"no slot", plain(most(0)), 1},
		{"broken slots", plain(most(2), broken(1, 4)), 1 + 4 + 6},
		{"all slots broken", plain(broken(0, 1, 2, 3, 4, 5)), 1},
		{"a longer bar", plain(slots(16), most(16)), 1 << 16},
		{"just two slots", plain(wants(scene(50, 50, 0))), 1},
		{"two slots, and others between", plain(wants(scene(50, 50, 4))), 16},
		{"two slots, and at most 2 others between", plain(wants(scene(50, 50, 2))), 1 + 4 + 6},
		{"two slots, and at most 1 other, as there are only 3", plain(wants(scene(50, 50, 4)), most(3)), 5},
		{"none", plain(wants(scene(50, 50, 4)), most(1)), 0},
	} {
		expect(t, x.what, count(x.b), fine(x.want))
	}
}

func TestNeeded(t *testing.T) {
	none := failed(api.ErrRefuse)
	for _, x := range []struct {
		what string
		b    api.Bar
		want outcome
	}{
		{"no scene", plain(), fine(0, 0)},
		{"one plan", plain(wants(scene(50, 50, 0))), fine(set(0, 5), set(0, 5))},
		{"plans with more slots do not count", plain(wants(scene(50, 50, 4))), fine(set(0, 5), set(0, 5))},
		{"two plans", plain(wants(scene(40, 40, 0))), fine(0, set(0, 1, 4, 5))},
		{"two plans with a slot in common", plain(wants(scene(40, 40, 0), scene(40, 40, 0)), slots(9), broken(1, 2, 3, 5, 6, 7)), fine(set(4), set(0, 4, 8))},
		{"a slot in the middle", plain(wants(scene(50, 50, 1), scene(20, 20, 0))), fine(set(0, 5), set(0, 2, 3, 5))},
		{"no plan", plain(wants(scene(50, 50, 0)), most(1)), none},
		{"fewer slots rather than a lesser number", sparse(), fine(set(10, 11), set(7, 10, 11, 15))},
	} {
		expect(t, x.what, needed(x.b), x.want)
	}
}

func TestMost(t *testing.T) {
	for _, x := range []struct {
		what         string
		b            api.Bar
		plan, scenes int
	}{
		{"no scene", plain(), 0, 0},
		{"none can be taken", plain(wants(scene(60, 70, 16), scene(21, 29, 16))), 0, 0},
		{"no picture", plain(wants(scene(10, 20, 16)), most(0)), 0, 0},
		{"one of two", plain(wants(scene(60, 70, 16), scene(20, 29, 16))), set(0, 2), set(1)},
		{"the least number, whichever scene it takes", plain(wants(scene(30, 30, 0), scene(20, 20, 0)), most(2)), set(0, 2), set(1)},
		{"more scenes rather than fewer slots", plain(wants(scene(30, 30, 0), scene(20, 20, 0))), set(0, 2, 5), set(0, 1)},
		{"fewer slots rather than a lesser number", sparse(), set(7, 10, 11), set(0, 1)},
		{"all", plain(wants(scene(30, 30, 1), scene(20, 20, 1), scene(10, 10, 0))), set(0, 1, 3), set(0, 1, 2)},
		{"two of three", plain(wants(scene(50, 50, 0), scene(20, 20, 0), scene(30, 30, 0))), set(0, 2, 5), set(1, 2)},
	} {
		expect(t, x.what, theMost(x.b), fine(x.plan, x.scenes))
	}
}

func TestWhy(t *testing.T) {
	for _, x := range []struct {
		what string
		b    api.Bar
		want outcome
	}{
		{"no scene", plain(), fine()},
		{"no scene, and no picture", plain(most(0)), fine()},
		{"some plan takes all", plain(wants(scene(30, 30, 0), scene(20, 20, 0))), fine()},
		{"the first one is too much", plain(wants(scene(60, 60, 0), scene(20, 20, 0))), failed(api.ErrRefuse, api.BarOne, 0, 0)},
		{"the last one is too much", plain(wants(scene(20, 20, 0), scene(30, 30, 0), scene(21, 29, 0))), failed(api.ErrRefuse, api.BarOne, 2, 0)},
		{"the first of two that are", plain(wants(scene(20, 20, 0), scene(60, 60, 0), scene(21, 29, 0))), failed(api.ErrRefuse, api.BarOne, 1, 0)},
		{"one rather than two", plain(most(2), wants(scene(20, 20, 0), scene(30, 30, 0), scene(60, 60, 0))), failed(api.ErrRefuse, api.BarOne, 2, 0)},
		{"two", plain(most(2), wants(scene(20, 20, 0), scene(30, 30, 0))), failed(api.ErrRefuse, api.BarTwo, 0, 1)},
		{"the least first one", plain(most(2), wants(scene(10, 20, 0), scene(10, 10, 0), scene(20, 20, 0), scene(10, 20, 0), scene(30, 30, 0))), failed(api.ErrRefuse, api.BarTwo, 0, 4)},
		{"the least second one", plain(most(2), wants(scene(10, 30, 0), scene(10, 10, 0), scene(10, 20, 0), scene(30, 30, 0), scene(20, 20, 0))), failed(api.ErrRefuse, api.BarTwo, 1, 3)},
		{"both of the last ones", plain(most(2), wants(scene(10, 30, 0), scene(10, 20, 0), scene(10, 10, 0), scene(20, 20, 0))), failed(api.ErrRefuse, api.BarTwo, 2, 3)},
		{"without calm", plain(wants(scene(50, 50, 0), scene(20, 20, 0))), failed(api.ErrRefuse, api.BarTwo, 0, 1)},
		{"all of three", plain(most(3), wants(scene(10, 10, 1), scene(20, 20, 1), scene(50, 50, 1))), failed(api.ErrRefuse, api.BarAll, 0, 0)},
	} {
		expect(t, x.what, why(x.b), x.want)
	}
}

// many returns that a bar has so many scenes like this one.
func many(n int, s api.Scene) change {
	return func(b *api.Bar) {
		b.Scenes = nil
		for range n {
			b.Scenes = append(b.Scenes, s)
		}
	}
}

func brokenBits(n int) change { return func(b *api.Bar) { b.Broken = n } }

func TestBarsThatAreNotValid(t *testing.T) {
	good := scene(10, 20, 1)
	for what, b := range map[string]api.Bar{
		"Slots 0":            plain(slots(0)),
		"Slots -1":           plain(slots(-1)),
		"Slots 17":           plain(slots(17)),
		"the least Slots":    plain(slots(math.MinInt)),
		"the greatest Slots": plain(slots(math.MaxInt)),
		"Pitch 0":            plain(pitch(0)),
		"Pitch -1":           plain(pitch(-1)),
		"Pitch 1001":         plain(pitch(1001)),
		"Broken -1":          plain(brokenBits(-1)),
		"Broken beyond":      plain(broken(6)),
		"Broken far beyond":  plain(broken(62)),
		"Broken the least":   plain(brokenBits(math.MinInt)),
		"Most -1":            plain(most(-1)),
		"Most 17":            plain(most(17)),
		"11 scenes":          plain(many(11, good)),
		"Least -1":           plain(wants(scene(-1, 20, 1))),
		"Least above Most":   plain(wants(scene(21, 20, 1))),
		"Most 10001":         plain(wants(scene(10, 10001, 1))),
		"Least 10001":        plain(wants(scene(10001, 10001, 1))),
		"Calm -1":            plain(wants(scene(10, 20, -1))),
		"Calm 17":            plain(wants(scene(10, 20, 17))),
		"a later scene":      plain(wants(good, good, scene(10, 9, 0))),
	} {
		for _, plan := range []int{0, -1, 1 << 20} {
			for _, scene := range []int{0, -1, 10} {
				for name, got := range everything(b, plan, scene) {
					expect(t, name+" with "+what, got, failed(api.ErrArg))
				}
			}
		}
	}
}

func TestBarsAtTheLimits(t *testing.T) {
	for what, b := range map[string]api.Bar{
		"one slot":             plain(slots(1), wants()),
		"a pitch of 1":         plain(pitch(1)),
		"no picture":           plain(most(0)),
		"the greatest numbers": plain(slots(16), pitch(1000), most(16), many(10, scene(10000, 10000, 16))),
		"the least numbers":    plain(slots(1), pitch(1), most(0), many(10, scene(0, 0, 0))),
		"all slots broken":     plain(slots(16), brokenBits(1<<16-1)),
	} {
		for name, got := range everything(b, 0, 0) {
			wrong := got.e == api.ErrArg || name != "Best" && got.e == api.ErrRange
			if wrong {
				t.Errorf("%s with %s: error %d", name, what, got.e)
			}
		}
	}
	wide := plain(slots(16), pitch(1000), most(16), many(10, scene(10000, 10000, 16)))
	expect(t, "Fewest of the greatest numbers", fewest(wide), fine(set(0, 10)))
	expect(t, "Taken of the greatest numbers", taken(wide, 1<<16-1), fine(1<<10-1))
	expect(t, "Best of the last scene", best(wide, set(4, 5, 14, 15), 9), fine(4, 14))
}

func TestPlansAndScenesThatAreNone(t *testing.T) {
	b := plain(wants(scene(20, 20, 0), scene(60, 60, 0)), broken(3), most(3))
	for what, plan := range map[string]int{
		"a plan below 0":             -1,
		"the least plan":             math.MinInt,
		"the greatest plan":          math.MaxInt,
		"a slot that the bar lacks":  set(0, 6),
		"a slot far beyond":          set(0, 62),
		"a slot that is broken":      set(0, 3),
		"only a slot that is broken": set(3),
		"more slots than can be":     set(0, 1, 2, 4),
	} {
		for _, scene := range []int{0, 1, 2, -1} {
			for name, got := range everything(b, plan, scene) {
				if withPlan(name) {
					expect(t, name+" of "+what, got, failed(api.ErrRange))
				}
			}
		}
	}
	for _, scene := range []int{-1, 2, math.MinInt, math.MaxInt} {
		expect(t, "Best of a scene that is none", best(b, set(0, 2), scene), failed(api.ErrRange))
	}
	expect(t, "Best without scenes", best(plain(), 0, 0), failed(api.ErrRange))
	expect(t, "Best of the last scene", best(b, set(0, 2), 1), failed(api.ErrNone))
	expect(t, "Taken of 3 slots", taken(b, set(0, 2, 5)), fine(set(0)))
	expect(t, "Taken of a slot, with Most 0", taken(plain(most(0)), set(0)), failed(api.ErrRange))
	expect(t, "Taken of no slot, with Most 0", taken(plain(most(0)), 0), fine(0))
}
