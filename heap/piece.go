package heap

import (
	"strconv"
	"strings"

	"pairworks/api"
)

// What stands in a piece for what is torn off.
const (
	hole = '?' // for one byte
	star = '*' // for any bytes that follow one another
)

// piece is what is left of a text.
type piece interface {
	// fits returns whether it can be left of this text.
	fits(text string) bool
}

// whole is a piece without a star.
type whole struct{ bytes string }

func (w whole) fits(text string) bool {
	if len(text) != len(w.bytes) {
		return false
	}
	for k := range len(text) {
		if w.bytes[k] != hole && w.bytes[k] != text[k] {
			return false
		}
	}
	return true
}

// starred is a piece with a star: what is before it, and what is after it.
type starred struct{ before, after whole }

func (s starred) fits(text string) bool {
	before, after := len(s.before.bytes), len(text)-len(s.after.bytes)
	return before <= after && s.before.fits(text[:before]) && s.after.fits(text[after:])
}

// read returns the piece that is written so.
func read(text string) piece {
	k := strings.IndexByte(text, star)
	if k < 0 {
		return whole{text}
	}
	return starred{whole{text[:k]}, whole{text[k+1:]}}
}

// entry is a card of a box: the texts that it has.
type entry struct{ colour, number, title string }

// trait is something that an entry has, and what is left of it on a card.
type trait struct {
	of   func(entry) string
	left func(api.Torn) piece
}

func traits() [3]trait {
	return [...]trait{
		{func(e entry) string { return e.colour }, colourLeft},
		{func(e entry) string { return e.number }, func(card api.Torn) piece { return read(card.Number) }},
		{func(e entry) string { return e.title }, func(card api.Torn) piece { return read(card.Text) }},
	}
}

// colourLeft returns what is left of the colour of a card: all of it, or nothing.
func colourLeft(card api.Torn) piece {
	if card.Colour == 0 {
		return starred{}
	}
	return whole{strconv.Itoa(card.Colour)}
}
