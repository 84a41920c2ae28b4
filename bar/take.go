package bar

import (
	"iter"

	"pairworks/api"
)

// scenes is a set of scenes.
type scenes int

// takenBy yields the gaps by which a plan takes a scene.
func (l looked) takenBy(p plan, scene int) iter.Seq[gap] {
	return func(yield func(gap) bool) {
		for _, g := range l.gaps[scene] {
			if p.allows(g, l.Scenes[scene].Calm) && !yield(g) {
				return
			}
		}
	}
}

// best returns the best gap by which a plan takes a scene; noGap if it does not take it.
func (l looked) best(p plan, scene int) gap {
	return fold(l.takenBy(p, scene), noGap(), p.clearer)
}

func (l looked) takes(p plan, scene int) bool {
	_, found := first(l.takenBy(p, scene))
	return found
}

// taken returns the scenes that a plan takes.
func (l looked) taken(p plan) scenes {
	var all scenes
	for scene := range l.Scenes {
		if l.takes(p, scene) {
			all = join(all, only[scenes](scene))
		}
	}
	return all
}

// plansOf yields the plans of so many slots, the least number first.
func (l looked) plansOf(slots int) iter.Seq[plan] {
	return func(yield func(plan) bool) {
		if slots == 0 {
			yield(0)
			return
		}
		for p := below[plan](slots); p <= below[plan](l.Slots); p = p.next() {
			if p.without(l.free()) == 0 && !yield(p) {
				return
			}
		}
	}
}

// plans yields all plans: those with fewer slots first, of several the least number.
func (l looked) plans() iter.Seq[plan] {
	return func(yield func(plan) bool) {
		for slots := range l.Most + 1 {
			for p := range l.plansOf(slots) {
				if !yield(p) {
					return
				}
			}
		}
	}
}

// taking yields those of some plans that take all the scenes that are wanted.
func (l looked) taking(wanted scenes, plans iter.Seq[plan]) iter.Seq[plan] {
	return func(yield func(plan) bool) {
	next:
		for p := range plans {
			for scene := range each(wanted) {
				if !l.takes(p, scene) {
					continue next
				}
			}
			if !yield(p) {
				return
			}
		}
	}
}

// can returns whether some plan takes all the scenes that are wanted.
func (l looked) can(wanted scenes) bool {
	_, found := first(l.taking(wanted, l.plans()))
	return found
}

// catch is a plan, and the scenes that it takes.
type catch struct {
	plan   plan
	scenes scenes
}

// most returns the first of the plans that take the most scenes.
func (l looked) most() catch {
	return fold(l.plans(), catch{}, func(best catch, p plan) catch {
		if taken := l.taken(p); size(taken) > size(best.scenes) {
			return catch{p, taken}
		}
		return best
	})
}

// obstacle returns why no plan takes all scenes, and the scenes that are too much if it is one, or two; there is no such plan.
func (l looked) obstacle() (why, one, other int) {
	for a := range l.Scenes {
		if !l.can(only[scenes](a)) {
			return api.BarOne, a, 0
		}
	}
	for a := range l.Scenes {
		for b := a + 1; b < len(l.Scenes); b++ {
			if !l.can(join(only[scenes](a), only[scenes](b))) {
				return api.BarTwo, a, b
			}
		}
	}
	return api.BarAll, 0, 0
}
