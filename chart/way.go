package chart

import (
	"iter"

	"pairworks/api"
)

// step is a step along a sight, from one of its ends to the other one.
type step struct {
	sight, to int
	leads     offset
}

// stepsOf returns the steps along the sight with this number, there and back.
func stepsOf(k int, s api.Sight) (there, back step) {
	o := offsetOf(s)
	return step{k, s.To, o}, step{k, s.From, o.back()}
}

// way is steps, one after the other, and what their sights tell together.
type way struct {
	end              int // the station to which it leads
	sights, stations set // on the way
	leads            offset
}

// startAt returns the way that has no step yet.
func startAt(station int) way { return way{end: station, stations: setOf(station)} }

// by returns a way that goes on by a step.
func (w way) by(s step) way {
	return way{s.to, w.sights.with(s.sight), w.stations.with(s.to), w.leads.plus(s.leads)}
}

// closes returns whether a way that ends where it began can lead there.
func (w way) closes() bool { return offset{}.within(w.leads) }

// ways yields the ways from one station to another one, by some sights; none comes to a station twice.
func (l looked) ways(from, to int, by set) iter.Seq[way] {
	return func(yield func(way) bool) {
		var goOn func(way) bool
		goOn = func(w way) bool {
			if w.end == to {
				return yield(w)
			}
			for _, s := range l.steps[w.end] {
				if by.has(s.sight) && !w.stations.has(s.to) && !goOn(w.by(s)) {
					return false
				}
			}
			return true
		}
		goOn(startAt(from))
	}
}

// circles yields the circles of sights, each one from each of its sights on.
func (l looked) circles() iter.Seq[way] {
	return func(yield func(way) bool) {
		for k, s := range l.Sights {
			there, _ := stepsOf(k, s)
			for back := range l.ways(s.To, s.From, l.all().without(setOf(k))) {
				if !yield(back.by(there)) {
					return
				}
			}
		}
	}
}
