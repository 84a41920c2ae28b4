package heap_test

import (
	"fmt"
	"math/bits"
	"math/rand/v2"
	"slices"
	"strings"
	"testing"

	"pairworks/api"
)

// left returns all that can be left of a text.
func left(text string) map[string]bool {
	all := map[string]bool{}
	for holes := range 1 << len(text) {
		piece := []byte(text)
		for k := range piece {
			if holes>>k&1 == 1 {
				piece[k] = '?'
			}
		}
		all[string(piece)] = true
		for from := range len(piece) + 1 {
			for to := from; to <= len(piece); to++ {
				all[string(piece[:from])+"*"+string(piece[to:])] = true
			}
		}
	}
	return all
}

// known remembers what can be left of texts.
type known map[string]map[string]bool

func (k known) isLeft(piece, text string) bool {
	if k[text] == nil {
		k[text] = left(text)
	}
	return k[text][piece]
}

// card is a card of a box.
type card struct {
	colour        int
	number, title string
}

// cardsOf returns the cards of all boxes.
func cardsOf(boxes []api.Box) (all []card) {
	for _, b := range boxes {
		for k, title := range b.Titles {
			all = append(all, card{b.Colour, fmt.Sprint(k + 1), title})
		}
	}
	return all
}

// fitting returns the entries that each card fits, by bits.
func (k known) fitting(m api.Mixed) (all []int) {
	for _, c := range m.Cards {
		fits := 0
		for n, entry := range cardsOf(m.Boxes) {
			if (c.Colour == 0 || c.Colour == entry.colour) && k.isLeft(c.Number, entry.number) && k.isLeft(c.Text, entry.title) {
				fits |= 1 << n
			}
		}
		all = append(all, fits)
	}
	return all
}

// waysOf returns all ways in their order, if each card fits these entries.
func waysOf(fits []int) (all [][]int) {
	var extend func(way []int, taken int)
	extend = func(way []int, taken int) {
		if len(way) == len(fits) {
			all = append(all, append([]int(nil), way...))
			return
		}
		for entry := range api.MaxEntries {
			if fits[len(way)]&^taken>>entry&1 == 1 {
				extend(append(way, entry), taken|1<<entry)
			}
		}
	}
	extend(nil, 0)
	return all
}

// fewest returns the fewest cards without a way, if each one fits these entries.
func fewest(fits []int) outcome {
	best := 0
	for cards := 1; cards < 1<<len(fits); cards++ {
		all := 0
		for k, f := range fits {
			if cards>>k&1 == 1 {
				all |= f
			}
		}
		isLess := best == 0 || bits.OnesCount(uint(cards)) < bits.OnesCount(uint(best))
		if bits.OnesCount(uint(all)) < bits.OnesCount(uint(cards)) && isLess {
			best = cards
		}
	}
	return outcome{number: [2]int{best}, e: api.ErrRefuse}
}

// wanted returns what all functions must tell, if there are these ways, of so many entries.
func wanted(fits []int, ways [][]int, entries, one, entry int) map[string]outcome {
	want := map[string]outcome{"Fits": told(fits[one]), "Count": told(len(ways)), "Why": told(0)}
	if len(ways) == 0 {
		want["Share"], want["Why"] = told(0), fewest(fits)
		for _, name := range []string{"First", "Sure", "Lost"} {
			want[name] = failed(api.ErrNone)
		}
		return want
	}
	share, surely, can := 0, 1<<entries-1, 0
	sure := append([]int(nil), ways[0]...)
	for _, way := range ways {
		without := 1<<entries - 1
		for k, n := range way {
			without &^= 1 << n
			if sure[k] != n {
				sure[k] = -1
			}
		}
		surely, can = surely&without, can|without
		if way[one] == entry {
			share++
		}
	}
	want["Share"], want["First"], want["Sure"], want["Lost"] = told(share), way(ways[0]...), way(sure...), told(surely, can)
	return want
}

// anyText returns a text of letters, or what could be left of one.
func anyText(r *rand.Rand, letters string, most int) string {
	text := make([]byte, r.IntN(most)+1)
	for k := range text {
		text[k] = letters[r.IntN(len(letters))]
	}
	return string(text)
}

// tear returns something that is left of a text.
func tear(r *rand.Rand, text string, holes, stars int) string {
	piece := []byte(text)
	for k := range piece {
		if r.IntN(100) < holes {
			piece[k] = '?'
		}
	}
	if r.IntN(100) < stars {
		from := r.IntN(len(piece) + 1)
		to := from + r.IntN(len(piece)-from+1)
		if to > from || len(piece) < api.MaxTitle {
			return string(piece[:from]) + "*" + string(piece[to:])
		}
	}
	return string(piece)
}

// anyBoxes returns boxes with titles of these letters.
func anyBoxes(r *rand.Rand, letters string, long int) (boxes []api.Box) {
	for range r.IntN(3) + 1 {
		b := box(1 + r.IntN(3))
		for range r.IntN(4) {
			b.Titles = append(b.Titles, anyText(r, letters, long))
		}
		boxes = append(boxes, b)
	}
	return boxes
}

// trulyTorn returns what is left of a card.
func trulyTorn(r *rand.Rand, c card, holes, stars int) api.Torn {
	left := torn(c.colour, tear(r, c.number, holes, stars), tear(r, c.title, holes, stars))
	if r.IntN(100) < holes+20 {
		left.Colour = 0
	}
	return left
}

// anyHeap returns boxes, and a heap whose cards are torn from theirs, or from others like them.
func anyHeap(r *rand.Rand) api.Mixed {
	m := api.Mixed{Boxes: anyBoxes(r, "aab", 3)}
	from := cardsOf(m.Boxes)
	r.Shuffle(len(from), func(i, j int) { from[i], from[j] = from[j], from[i] })
	holes, stars := r.IntN(100), r.IntN(100)
	strange := r.IntN(40)
	for range r.IntN(5) + 1 {
		if len(from) == 0 || r.IntN(100) < strange {
			from = append([]card{{1 + r.IntN(3), fmt.Sprint(r.IntN(5)), anyText(r, "ab", 3)}}, from...)
		}
		m.Cards = append(m.Cards, trulyTorn(r, from[0], holes, stars))
		from = from[1:]
	}
	return m
}

// kinds counts what was met.
type kinds map[string]int

// need checks that each of these was met often enough.
func (n kinds) need(t *testing.T, least int, names ...string) {
	t.Helper()
	for _, name := range names {
		if n[name] < least {
			t.Errorf("%q was met %d times, which is too seldom", name, n[name])
		}
	}
}

// Each result is what all ways tell, one by one.
func TestAgainstAllWays(t *testing.T) {
	r := rand.New(rand.NewPCG(1001, 1002))
	k, n := known{}, kinds{}
	for range 12000 {
		m := anyHeap(r)
		fits, entries := k.fitting(m), len(cardsOf(m.Boxes))
		ways := waysOf(fits)
		one, entry := r.IntN(len(m.Cards)), r.IntN(max(1, entries))
		want := wanted(fits, ways, entries, one, entry)
		if entries == 0 {
			want["Share"] = failed(api.ErrRange)
		}
		got := everything(m, one, entry)
		for name := range want {
			expect(t, name, got[name], want[name])
		}
		if t.Failed() {
			t.Fatalf("the heap is %+v, the card %d, the entry %d", m, one, entry)
		}
		n[[]string{"no way", "one way", "some ways"}[min(2, len(ways))]]++
		n[fmt.Sprint(bits.OnesCount(uint(want["Why"].number[0])), " cards with too few entries")]++
		if sure := want["Sure"].list; len(ways) > 1 && slices.Max(sure) != api.NoEntry {
			n["some entries are sure"]++
		}
		if lost := want["Lost"].number; lost[0] != 0 && lost[1] != lost[0] {
			n["some are lost, and some can be"]++
		}
		if share := want["Share"].number[0]; 0 < share && share < len(ways) {
			n["a share of the ways"]++
		}
	}
	n.need(t, 100, "no way", "one way", "some ways", "1 cards with too few entries", "2 cards with too few entries", "3 cards with too few entries",
		"some entries are sure", "some are lost, and some can be", "a share of the ways")
}

// Each short piece fits just the texts of which it can be left.
func TestAgainstAllPieces(t *testing.T) {
	var pieces []string
	var grow func(piece string)
	grow = func(piece string) {
		if strings.Count(piece, "*") < 2 {
			pieces = append(pieces, piece)
			if len(piece) < 5 {
				for _, b := range "ab?*" {
					grow(piece + string(b))
				}
			}
		}
	}
	grow("")
	k, n := known{}, kinds{}
	for _, text := range []string{"a", "b", "ab", "aa", "aba", "aab", "abba", "aaaa", "babab"} {
		for _, piece := range pieces {
			m := api.Mixed{Boxes: []api.Box{box(1, text)}, Cards: []api.Torn{torn(0, "*", piece)}}
			want := 0
			if k.isLeft(piece, text) {
				want = 1
				n[text]++
			}
			expect(t, fmt.Sprintf("%q of %q", piece, text), fits(m, 0), told(want))
		}
		if n[text] == 0 {
			t.Errorf("nothing is left of %q", text)
		}
	}
}
