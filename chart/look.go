package chart

import (
	"slices"

	"pairworks/api"
)

// looked is a valid chart that is looked at.
type looked struct {
	api.Chart
	steps map[int][]step // by the stations from which they go
}

// look looks at a valid chart.
func look(c api.Chart) looked {
	l := looked{Chart: c, steps: map[int][]step{}}
	for k, s := range c.Sights {
		there, back := stepsOf(k, s)
		l.steps[s.From] = append(l.steps[s.From], there)
		l.steps[s.To] = append(l.steps[s.To], back)
	}
	return l
}

func valid(c api.Chart) bool {
	if c.Stations < 1 || c.Stations > api.MaxStations || len(c.Sights) > api.MaxSights {
		return false
	}
	return !slices.ContainsFunc(c.Sights, func(s api.Sight) bool { return !allows(c, s) })
}

// allows returns whether a sight of a chart is valid.
func allows(c api.Chart, s api.Sight) bool {
	for _, d := range directions() {
		tells := span(d.tells(s))
		if tells.Lo > tells.Hi || !tells.within(span{-api.MaxReach, api.MaxReach}) {
			return false
		}
	}
	return isStation(c, s.From) && isStation(c, s.To) && s.From != s.To
}

func isStation(c api.Chart, n int) bool { return 0 <= n && n < c.Stations }

// all returns all sights.
func (l looked) all() set { return below(len(l.Sights)) }
