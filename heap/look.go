package heap

import (
	"slices"
	"strconv"

	"pairworks/api"
)

// looked is valid boxes with a heap that are looked at.
type looked struct {
	api.Mixed
	entries []entry
	fits    []set // of each card: the entries that it fits
}

func look(m api.Mixed) looked {
	l := looked{Mixed: m}
	l.entries = l.listed()
	l.fits = l.fitted()
	return l
}

func valid(m api.Mixed) bool {
	titles := 0
	for _, box := range m.Boxes {
		titles += len(box.Titles)
	}
	return len(m.Boxes) <= api.MaxBoxes && titles <= api.MaxEntries && len(m.Cards) <= api.MaxCards &&
		!slices.ContainsFunc(m.Boxes, isWrongBox) && !slices.ContainsFunc(m.Cards, isWrongCard)
}

func isWrongBox(box api.Box) bool {
	return box.Colour < 1 || box.Colour > api.MaxColour || slices.ContainsFunc(box.Titles, isWrongTitle)
}

func isWrongTitle(title string) bool {
	return len(title) < 1 || len(title) > api.MaxTitle || howMany([]byte(title), isLetter) < len(title)
}

func isWrongCard(card api.Torn) bool {
	return card.Colour < 0 || card.Colour > api.MaxColour || !isPiece(card.Number) || !isPiece(card.Text)
}

func isPiece(text string) bool {
	bytes := []byte(text)
	return len(bytes) <= api.MaxTitle && howMany(bytes, isLeft) == len(bytes) && howMany(bytes, isStar) <= 1
}

func isLetter(b byte) bool { return 'a' <= b && b <= 'z' }

func isStar(b byte) bool { return b == star }

// isLeft returns whether a byte can be one of what is left of a text.
func isLeft(b byte) bool { return isLetter(b) || '0' <= b && b <= '9' || b == hole || isStar(b) }

// howMany returns how many of a list are of a kind.
func howMany[T any](list []T, is func(T) bool) (many int) {
	for _, one := range list {
		if is(one) {
			many++
		}
	}
	return many
}

// listed returns the cards of all boxes.
func (l looked) listed() (entries []entry) {
	for _, box := range l.Boxes {
		for k, title := range box.Titles {
			entries = append(entries, entry{strconv.Itoa(box.Colour), strconv.Itoa(k + 1), title})
		}
	}
	return entries
}

// fitted returns of each card the entries that it fits.
func (l looked) fitted() []set {
	fits := make([]set, len(l.Cards))
cards:
	for card, torn := range l.Cards {
		entries := below(len(l.entries))
		for _, t := range traits() {
			left := t.left(torn)
			for entry := range numbers(len(l.entries), entries.has) {
				if !left.fits(t.of(l.entries[entry])) {
					entries = entries.without(setOf(entry))
				}
			}
			if entries == 0 {
				continue cards // it fits nothing
			}
		}
		fits[card] = entries
	}
	return fits
}
