package chart

import (
	"math"

	"pairworks/api"
)

// span is a span with which one can reckon.
type span api.Span

// plus returns the numbers of a span and those of another one, added.
func (s span) plus(other span) span { return span{sum(s.Lo, other.Lo), sum(s.Hi, other.Hi)} }

// minus returns the numbers of a span with the other sign.
func (s span) minus() span { return span{-s.Hi, -s.Lo} }

// common returns what two spans have in common.
func (s span) common(other span) span { return span{max(s.Lo, other.Lo), min(s.Hi, other.Hi)} }

func (s span) within(other span) bool { return other.Lo <= s.Lo && s.Hi <= other.Hi }

// sum adds up lengths.
func sum[L ~int](lengths ...L) L {
	var all L
	for _, n := range lengths {
		all += n
	}
	return all
}

// The directions in which one station lies from another one.
const (
	toEast = iota
	toNorth
	allDirections
)

// direction is a direction, and what a sight tells of it.
type direction struct{ tells func(api.Sight) api.Span }

func directions() [allDirections]direction {
	return [allDirections]direction{
		toEast:  {func(s api.Sight) api.Span { return s.East }},
		toNorth: {func(s api.Sight) api.Span { return s.North }},
	}
}

// offset is how far one station lies from another one, by directions.
type offset [allDirections]span

// offsetOf returns what a sight tells.
func offsetOf(s api.Sight) offset {
	var o offset
	for k, d := range directions() {
		o[k] = span(d.tells(s))
	}
	return o
}

// anywhere returns an offset of which nothing is known.
func anywhere() offset {
	all := span{math.MinInt, math.MaxInt}
	return offset{all, all}
}

// plus returns where an offset leads from the end of another one.
func (o offset) plus(other offset) offset {
	for k := range o {
		o[k] = o[k].plus(other[k])
	}
	return o
}

// back returns an offset, seen from its other end.
func (o offset) back() offset {
	for k := range o {
		o[k] = o[k].minus()
	}
	return o
}

// common returns what two offsets have in common.
func (o offset) common(other offset) offset {
	for k := range o {
		o[k] = o[k].common(other[k])
	}
	return o
}

func (o offset) within(other offset) bool {
	for k := range o {
		if !o[k].within(other[k]) {
			return false
		}
	}
	return true
}
