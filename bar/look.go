package bar

import "pairworks/api"

// looked is a valid bar that is looked at.
type looked struct {
	api.Bar
	gaps map[int][]gap // by scenes: those that are as far apart as the scene wants; the widest first, of several the leftmost one
}

// look looks at a bar; it returns ErrArg unless the bar is valid.
func look(b api.Bar) (looked, api.Errno) {
	if !valid(b) {
		return looked{}, api.ErrArg
	}
	l := looked{Bar: b, gaps: map[int][]gap{}}
	all := gapsByWidth(b.Slots)
	for scene, s := range b.Scenes {
		for width := b.Slots - 1; width > 0; width-- {
			if inside(b.Pitch*width, s.Least, s.Most) {
				l.gaps[scene] = append(l.gaps[scene], all[width]...)
			}
		}
	}
	return l, api.OK
}

// lookAt looks at a bar, to ask about a plan and some scenes; it returns ErrRange unless they are such.
func lookAt(b api.Bar, number int, asked ...int) (looked, plan, api.Errno) {
	l, e := look(b)
	if e != api.OK {
		return looked{}, 0, e
	}
	p := plan(number)
	if p.without(l.free()) != 0 || size(p) > l.Most {
		return looked{}, 0, api.ErrRange
	}
	for _, scene := range asked {
		if !inside(scene, 0, len(l.Scenes)-1) {
			return looked{}, 0, api.ErrRange
		}
	}
	return l, p, api.OK
}

func valid(b api.Bar) bool {
	if !inside(b.Slots, 1, api.MaxBar) || plan(b.Broken).without(below[plan](b.Slots)) != 0 {
		return false
	}
	if !inside(b.Pitch, 1, api.MaxPitch) || !inside(b.Most, 0, api.MaxBar) || len(b.Scenes) > api.MaxScenes {
		return false
	}
	for _, s := range b.Scenes {
		if !inside(s.Least, 0, api.MaxBase) || !inside(s.Most, s.Least, api.MaxBase) || !inside(s.Calm, 0, api.MaxBar) {
			return false
		}
	}
	return true
}

func inside(n, least, most int) bool { return least <= n && n <= most }

// free returns the slots that are not broken.
func (l looked) free() plan { return below[plan](l.Slots).without(plan(l.Broken)) }

// all returns all scenes.
func (l looked) all() scenes { return below[scenes](len(l.Scenes)) }
