package heap_test

import (
	"fmt"
	"math"
	"reflect"
	"strings"
	"testing"

	"pairworks/api"
	"pairworks/heap"
)

func box(colour int, titles ...string) api.Box { return api.Box{Colour: colour, Titles: titles} }

func torn(colour int, number, text string) api.Torn {
	return api.Torn{Colour: colour, Number: number, Text: text}
}

// sampleBoxes returns the boxes of the chapter's examples.
func sampleBoxes() []api.Box {
	return []api.Box{box(1, "falls", "mill", "pass"), box(2, "mill", "lake")}
}

// sample returns the boxes with the heap of the chapter's examples, and more cards.
func sample(more ...api.Torn) api.Mixed {
	cards := []api.Torn{torn(0, "?", "mi*"), torn(0, "*", "mill"), torn(0, "2", "?a*")}
	return api.Mixed{Boxes: sampleBoxes(), Cards: append(cards, more...)}
}

// fourth returns the fourth card of the chapter's examples.
func fourth() api.Torn { return torn(0, "*", "m??l") }

// numbered returns a box with as many cards of one title, and a heap of cards of which these numbers are left.
func numbered(many int, numbers ...string) api.Mixed {
	m := api.Mixed{Boxes: []api.Box{box(1)}}
	for range many {
		m.Boxes[0].Titles = append(m.Boxes[0].Titles, "view")
	}
	for _, number := range numbers {
		m.Cards = append(m.Cards, torn(0, number, "*"))
	}
	return m
}

// lettered returns boxes of cards whose titles are letters, three in each, and a heap of cards with these pieces of titles.
func lettered(titles string, cards ...string) api.Mixed {
	var m api.Mixed
	for k, title := range titles {
		if k%3 == 0 {
			m.Boxes = append(m.Boxes, box(1+k/3))
		}
		b := &m.Boxes[k/3]
		b.Titles = append(b.Titles, string(title))
	}
	for _, card := range cards {
		m.Cards = append(m.Cards, torn(0, "*", card))
	}
	return m
}

// setOf returns the set of some numbers.
func setOf(numbers ...int) (set int) {
	for _, n := range numbers {
		set |= 1 << n
	}
	return set
}

// outcome is all results of a call.
type outcome struct {
	number [2]int
	list   []int
	e      api.Errno
}

func told(numbers ...int) outcome {
	var o outcome
	copy(o.number[:], numbers)
	return o
}

func way(entries ...int) outcome { return outcome{list: entries} }

func failed(e api.Errno) outcome { return outcome{e: e} }

// refused returns what Why tells of cards that have too few entries.
func refused(cards ...int) outcome {
	return outcome{number: [2]int{setOf(cards...)}, e: api.ErrRefuse}
}

func fits(m api.Mixed, card int) outcome {
	n, e := heap.Fits(m, card)
	return outcome{number: [2]int{n}, e: e}
}

func count(m api.Mixed) outcome {
	n, e := heap.Count(m)
	return outcome{number: [2]int{n}, e: e}
}

func share(m api.Mixed, card, entry int) outcome {
	n, e := heap.Share(m, card, entry)
	return outcome{number: [2]int{n}, e: e}
}

// listed returns an outcome with a list; a nil list and an empty one are the same value.
func listed(list []int, e api.Errno) outcome {
	return outcome{list: append([]int(nil), list...), e: e}
}

func first(m api.Mixed) outcome { return listed(heap.First(m)) }

func sure(m api.Mixed) outcome { return listed(heap.Sure(m)) }

func lost(m api.Mixed) outcome {
	surely, can, e := heap.Lost(m)
	return outcome{number: [2]int{surely, can}, e: e}
}

func why(m api.Mixed) outcome {
	n, e := heap.Why(m)
	return outcome{number: [2]int{n}, e: e}
}

// everything returns the results of all functions.
func everything(m api.Mixed, card, entry int) map[string]outcome {
	return map[string]outcome{
		"Fits": fits(m, card), "Count": count(m), "Share": share(m, card, entry), "First": first(m),
		"Sure": sure(m), "Lost": lost(m), "Why": why(m),
	}
}

func expect(t *testing.T, what string, got, want any) {
	t.Helper()
	if !reflect.DeepEqual(got, want) {
		t.Errorf("%s: got %+v, want %+v", what, got, want)
	}
}

func TestExamples(t *testing.T) {
	m := sample()
	expect(t, "Fits of 0", fits(m, 0), told(setOf(1, 3)))
	expect(t, "Fits of 2", fits(m, 2), told(setOf(4)))
	expect(t, "Count", count(m), told(2))
	expect(t, "Share of 0 and 3", share(m, 0, 3), told(1))
	expect(t, "Share of 0 and 4", share(m, 0, 4), told(0))
	expect(t, "First", first(m), way(1, 3, 4))
	expect(t, "Sure", sure(m), way(-1, -1, 4))
	expect(t, "Lost", lost(m), told(setOf(0, 2), setOf(0, 2)))
	expect(t, "Why", why(m), told(0))
	m = sample(fourth())
	expect(t, "Count with the fourth card", count(m), told(0))
	expect(t, "First with the fourth card", first(m), failed(api.ErrNone))
	expect(t, "Why with the fourth card", why(m), refused(0, 1, 3))
}

// What is left of a text fits it just if it can be left of it.
func TestPieces(t *testing.T) {
	for _, x := range []struct {
		text        string
		fit, misfit []string
	}{
		{"mill",
			[]string{"mill", "m?ll", "?ill", "mil?", "????", "*", "m*", "*l", "*mill", "mill*", "mi*ll", "m*l", "?*", "*?", "??*??", "m?*", "*?l", "m??l", "*i??"},
			[]string{"", "mil", "mills", "will", "milk", "???", "?????", "m*m", "mill?", "?mill", "i*", "*m", "milll*", "*mmill", "mil*ll", "mi*ill", "?????*", "???*??", "mlil", "m1ll", "*1", "mill*l"}},
		{"a",
			[]string{"a", "?", "*", "a*", "*a", "?*", "*?"},
			[]string{"", "b", "aa", "??", "a*a", "?*?", "a?*", "*b", "b*", "1"}},
		{"abababababab",
			[]string{"abababababab", "*", "a*b", "abab*", "*abab", "????????????", "ababab*babab", "abababab*bab", "?????*??????"},
			[]string{"abababababa", "babababababa", "???????????", "a*a", "b*", "abababababac", "aa*", "*abb"}},
	} {
		m := api.Mixed{Boxes: []api.Box{box(3, x.text)}}
		for _, piece := range x.fit {
			m.Cards = []api.Torn{torn(0, "*", piece)}
			expect(t, fmt.Sprintf("%q of %q", piece, x.text), fits(m, 0), told(1))
		}
		for _, piece := range x.misfit {
			m.Cards = []api.Torn{torn(0, "*", piece)}
			expect(t, fmt.Sprintf("%q of %q", piece, x.text), fits(m, 0), told(0))
		}
	}
}

// Entries are numbered through all boxes, and their numbers begin at 1 in each one.
func TestFits(t *testing.T) {
	boxes := []api.Box{box(1, "falls", "mill", "pass"), box(9), box(2, "mill", "lake"), box(1, "mill")}
	for _, x := range []struct {
		card    api.Torn
		entries []int
	}{
		{torn(0, "*", "*"), []int{0, 1, 2, 3, 4, 5}},
		{torn(1, "*", "*"), []int{0, 1, 2, 5}},
		{torn(2, "*", "*"), []int{3, 4}},
		{torn(9, "*", "*"), nil},
		{torn(3, "*", "*"), nil},
		{torn(0, "1", "*"), []int{0, 3, 5}},
		{torn(0, "2", "*"), []int{1, 4}},
		{torn(0, "3", "*"), []int{2}},
		{torn(0, "4", "*"), nil},
		{torn(0, "0", "*"), nil},
		{torn(0, "01", "*"), nil},
		{torn(0, "?", "*"), []int{0, 1, 2, 3, 4, 5}},
		{torn(0, "?1", "*"), nil},
		{torn(0, "1?", "*"), nil},
		{torn(0, "*1", "*"), []int{0, 3, 5}},
		{torn(0, "a", "*"), nil},
		{torn(0, "", "*"), nil},
		{torn(0, "*", ""), nil},
		{torn(0, "", ""), nil},
		{torn(0, "*", "mill"), []int{1, 3, 5}},
		{torn(1, "*", "mill"), []int{1, 5}},
		{torn(0, "1", "mill"), []int{3, 5}},
		{torn(1, "1", "mill"), []int{5}},
		{torn(2, "2", "mill"), nil},
		{torn(0, "*", "?a*"), []int{0, 2, 4}},
		{torn(0, "*", "1"), nil},
		{torn(0, "*", "*s"), []int{0, 2}},
	} {
		m := api.Mixed{Boxes: boxes, Cards: []api.Torn{torn(0, "*", "*"), x.card}}
		expect(t, fmt.Sprintf("%+v", x.card), fits(m, 1), told(setOf(x.entries...)))
	}
	// Numbers of two digits.
	for _, x := range []struct {
		number  string
		entries []int
	}{
		{"1", []int{0}}, {"?", []int{0, 1, 2, 3, 4, 5, 6, 7, 8}}, {"1*", []int{0, 9, 10, 11}}, {"1?", []int{9, 10, 11}}, {"??", []int{9, 10, 11}},
		{"12", []int{11}}, {"*2", []int{1, 11}}, {"?2", []int{11}}, {"*0", []int{9}}, {"1*1", []int{10}}, {"1*?", []int{9, 10, 11}}, {"?*", []int{0, 1, 2, 3, 4, 5, 6, 7, 8, 9, 10, 11}},
		{"13", nil}, {"010", nil}, {"???", nil}, {"*?", []int{0, 1, 2, 3, 4, 5, 6, 7, 8, 9, 10, 11}}, {"??*", []int{9, 10, 11}},
	} {
		expect(t, "the number "+x.number, fits(numbered(12, x.number), 0), told(setOf(x.entries...)))
	}
}

// All that is told of some heaps: how many ways there are, the first one, what is sure, and what is lost.
func TestHeaps(t *testing.T) {
	for _, x := range []struct {
		what            string
		m               api.Mixed
		count           int
		first, sure     []int
		surely, canBeSo int
	}{
		{"nothing", api.Mixed{}, 1, nil, nil, 0, 0},
		{"boxes without titles", api.Mixed{Boxes: []api.Box{box(1), box(1), box(9), box(9)}}, 1, nil, nil, 0, 0},
		{"no cards", numbered(3), 1, nil, nil, 7, 7},
		{"one card, and one entry", numbered(1, "*"), 1, []int{0}, []int{0}, 0, 0},
		{"one card, and three entries", numbered(3, "*"), 3, []int{0}, []int{-1}, 0, 7},
		{"two cards, and three entries", numbered(3, "*", "*"), 6, []int{0, 1}, []int{-1, -1}, 0, 7},
		{"as many cards as entries", numbered(3, "*", "*", "*"), 6, []int{0, 1, 2}, []int{-1, -1, -1}, 0, 0},
		{"all is read", numbered(4, "2", "4", "1"), 1, []int{1, 3, 0}, []int{1, 3, 0}, 4, 4},
		{"one is read", numbered(3, "*", "2"), 2, []int{0, 1}, []int{-1, 1}, 0, 5},
		{"what is left for one is sure", numbered(2, "*", "2"), 1, []int{0, 1}, []int{0, 1}, 0, 0},
		{"sure one after the other", lettered("abc", "a", "?", "b"), 1, []int{0, 2, 1}, []int{0, 2, 1}, 0, 0},
		{"the first card gets what others leave it", numbered(12, "?", "1*", "1"), 24, []int{1, 9, 0}, []int{-1, -1, 0}, 0, 4094},
		{"the first way leaves the last card its entry", lettered("abc", "?", "?", "a"), 2, []int{1, 2, 0}, []int{-1, -1, 0}, 0, 0},
		{"two boxes that are alike", api.Mixed{Boxes: []api.Box{box(1, "mill"), box(1, "mill")}, Cards: []api.Torn{torn(1, "1", "mill"), torn(1, "1", "mill")}}, 2, []int{0, 1}, []int{-1, -1}, 0, 0},
		{"an entry that nobody fits", lettered("abb", "b", "?"), 4, []int{1, 0}, []int{-1, -1}, 0, 7},
		{"entries that nobody fits", lettered("abcb", "b", "*b"), 2, []int{1, 3}, []int{-1, -1}, setOf(0, 2), setOf(0, 2)},
		{"colours", api.Mixed{Boxes: sampleBoxes(), Cards: []api.Torn{torn(2, "*", "*"), torn(0, "*", "mill")}}, 3, []int{3, 1}, []int{-1, -1}, setOf(0, 2), setOf(0, 1, 2, 3, 4)},
		{"the most ways", numbered(12, "*", "*", "*", "*", "*", "*", "*", "*"), 19958400, []int{0, 1, 2, 3, 4, 5, 6, 7}, []int{-1, -1, -1, -1, -1, -1, -1, -1}, 0, 4095},
	} {
		expect(t, "Count: "+x.what, count(x.m), told(x.count))
		expect(t, "First: "+x.what, first(x.m), way(x.first...))
		expect(t, "Sure: "+x.what, sure(x.m), way(x.sure...))
		expect(t, "Lost: "+x.what, lost(x.m), told(x.surely, x.canBeSo))
		expect(t, "Why: "+x.what, why(x.m), told(0))
	}
}

// If there is no way, the fewest cards are named that have too few entries.
func TestNoWay(t *testing.T) {
	for what, x := range map[string]struct {
		m     api.Mixed
		cards []int
	}{
		"no boxes":                             {api.Mixed{Cards: []api.Torn{torn(0, "*", "*")}}, []int{0}},
		"boxes without titles":                 {api.Mixed{Boxes: []api.Box{box(1)}, Cards: []api.Torn{torn(0, "*", "*"), torn(1, "*", "*")}}, []int{0}},
		"a card that fits nothing":             {numbered(3, "*", "4"), []int{1}},
		"two cards that fit nothing":           {numbered(3, "1", "4", "5"), []int{1}},
		"no such colour":                       {sample(torn(3, "*", "*")), []int{3}},
		"too many cards":                       {numbered(2, "*", "*", "*"), []int{0, 1, 2}},
		"too many cards, of any three":         {numbered(2, "*", "*", "*", "*"), []int{0, 1, 2}},
		"two of one entry":                     {numbered(3, "1", "2", "1"), []int{0, 2}},
		"two of either entry":                  {numbered(3, "2", "1", "1", "2"), []int{1, 2}},
		"any two of three":                     {numbered(3, "2", "2", "2"), []int{0, 1}},
		"two later ones are fewer than three":  {lettered("aabb", "a", "a", "a", "c", "b", "b"), []int{3}},
		"the last two are fewer":               {lettered("abbbca", "a", "a", "?", "a", "c", "c"), []int{4, 5}},
		"two, though the last one has a place": {lettered("abc", "b", "b", "?", "?"), []int{0, 1}},
		"three of two entries":                 {api.Mixed{Boxes: []api.Box{box(1, "ab", "ac", "cd", "cd")}, Cards: []api.Torn{torn(0, "*", "c?"), torn(0, "*", "a?"), torn(0, "*", "cd"), torn(1, "*", "?c"), torn(0, "1", "*")}}, []int{1, 3, 4}},
		"three together":                       {api.Mixed{Boxes: sampleBoxes(), Cards: []api.Torn{torn(1, "?", "?a*"), torn(0, "1", "f*"), torn(1, "*", "pa?s")}}, []int{0, 1, 2}},
		"the most cards":                       {numbered(7, "*", "*", "*", "*", "*", "*", "*", "*"), []int{0, 1, 2, 3, 4, 5, 6, 7}},
		"the last of the most cards":           {numbered(12, "*", "*", "*", "*", "*", "*", "*", "13"), []int{7}},
	} {
		for name, got := range everything(x.m, 0, 0) {
			switch name {
			case "Fits":
				expect(t, what+": the error of Fits", got.e, api.OK)
			case "Count":
				expect(t, what+": Count", got, told(0))
			case "Share":
				if len(x.m.Boxes) > 0 && len(x.m.Boxes[0].Titles) > 0 {
					expect(t, what+": Share", got, told(0))
				}
			case "Why":
				expect(t, what+": Why", got, refused(x.cards...))
			default:
				expect(t, what+": "+name, got, failed(api.ErrNone))
			}
		}
	}
}

// Boxes with a heap that are not valid have ErrArg with each function, before any other error.
func TestHeapsThatAreNotValid(t *testing.T) {
	for what, change := range wrongs() {
		for _, more := range [][]api.Torn{nil, {fourth()}} { // with ways, and without
			m := sample(more...)
			change(&m)
			for _, number := range []int{0, -1, 1 << 20} {
				for name, got := range everything(m, number, number) {
					expect(t, what+": "+name, got, failed(api.ErrArg))
				}
			}
		}
	}
}

func wrongs() map[string]func(*api.Mixed) {
	wrong := map[string]func(*api.Mixed){
		"5 boxes":           func(m *api.Mixed) { m.Boxes = make([]api.Box, 5); fill(m.Boxes) },
		"many boxes":        func(m *api.Mixed) { m.Boxes = make([]api.Box, 99); fill(m.Boxes) },
		"13 titles":         func(m *api.Mixed) { m.Boxes[1].Titles = make([]string, 10); name(m.Boxes[1].Titles) },
		"13 titles of one":  func(m *api.Mixed) { m.Boxes = []api.Box{box(1, make([]string, 13)...)}; name(m.Boxes[0].Titles) },
		"9 cards":           func(m *api.Mixed) { m.Cards = make([]api.Torn, 9) },
		"many cards":        func(m *api.Mixed) { m.Cards = make([]api.Torn, 999) },
		"a wrong last card": func(m *api.Mixed) { m.Cards = append(m.Cards, torn(10, "*", "*")) },
		"a wrong last box":  func(m *api.Mixed) { m.Boxes = append(m.Boxes, box(10)) },
	}
	for _, colour := range []int{0, -1, 10, math.MinInt, math.MaxInt} {
		wrong[fmt.Sprint("the colour of a box ", colour)] = func(m *api.Mixed) { m.Boxes[1].Colour = colour }
		if colour != 0 {
			wrong[fmt.Sprint("the colour of a card ", colour)] = func(m *api.Mixed) { m.Cards[2].Colour = colour }
		}
	}
	for _, title := range []string{"", "abcdefghijklm", strings.Repeat("a", 9999), "A", "Mill", "mi?l", "mill*", "m1ll", "1", "mi ll", "`", "{", "mill\n", "m\x00ll", "m\u00fchle", "\xff"} {
		wrong[fmt.Sprintf("the title %.20q", title)] = func(m *api.Mixed) { m.Boxes[0].Titles[2] = title }
	}
	for _, piece := range []string{"abcdefghijklm", "************", "**", "*a*", "???????????*?", strings.Repeat("1", 9999), "A", "Z", "mi.l", "-1", "+1", " 1", "`", "{", "/", ":", ">", "@", ")", "+", "1\n", "\x00", "\u00fc", "\xff"} {
		wrong[fmt.Sprintf("the number %.20q", piece)] = func(m *api.Mixed) { m.Cards[0].Number = piece }
		wrong[fmt.Sprintf("the text %.20q", piece)] = func(m *api.Mixed) { m.Cards[1].Text = piece }
	}
	return wrong
}

// fill gives boxes a colour.
func fill(boxes []api.Box) {
	for k := range boxes {
		boxes[k].Colour = 1
	}
}

// name gives cards a title.
func name(titles []string) {
	for k := range titles {
		titles[k] = "view"
	}
}

// Boxes with a heap that are as large as they can be are valid.
func TestHeapsThatAreJustValid(t *testing.T) {
	long := "abcdefghxyza"
	m := api.Mixed{
		Boxes: []api.Box{box(1, "a", "z", long), box(9, "a", "z", "a", "z", "a", "z"), box(9), box(1, "a", "z", "a")},
		Cards: []api.Torn{
			torn(0, "", ""), torn(9, "*", "*"), torn(1, "0123456789az", "0123456789az"), torn(0, "???????????*", "*???????????"),
			torn(0, "*", long), torn(0, "3", "abc*fghxyza"), torn(0, "z", "9"), torn(0, "?", "????????????"),
		},
	}
	for card, entries := range []int{0, setOf(3, 4, 5, 6, 7, 8), 0, 0, setOf(2), setOf(2), 0, setOf(2)} {
		expect(t, fmt.Sprint("Fits of the card ", card), fits(m, card), told(entries))
	}
	for _, name := range []string{"Fits", "Count", "Share"} {
		expect(t, name+" has no error", everything(m, 7, 11)[name].e, api.OK)
	}
	expect(t, "Why", why(m), refused(0))
}

// A card, and an entry, are such, also if there is no way.
func TestNumbersOfNone(t *testing.T) {
	for _, m := range []api.Mixed{sample(), sample(fourth())} {
		cards := len(m.Cards)
		for _, card := range []int{-1, cards, cards + 1, 99, math.MinInt, math.MaxInt} {
			expect(t, fmt.Sprint("Fits of ", card), fits(m, card), failed(api.ErrRange))
			expect(t, fmt.Sprint("Share of the card ", card), share(m, card, 0), failed(api.ErrRange))
		}
		for _, entry := range []int{-1, 5, 6, 12, 99, math.MinInt, math.MaxInt} {
			expect(t, fmt.Sprint("Share of the entry ", entry), share(m, 0, entry), failed(api.ErrRange))
			expect(t, fmt.Sprint("Share of no card, and the entry ", entry), share(m, cards, entry), failed(api.ErrRange))
		}
		expect(t, "the last card", fits(m, cards-1).e, api.OK)
		expect(t, "the last card, and the last entry", share(m, cards-1, 4).e, api.OK)
	}
	expect(t, "Fits of no cards", fits(numbered(3), 0), failed(api.ErrRange))
	expect(t, "Share of no cards", share(numbered(3), 0, 0), failed(api.ErrRange))
	expect(t, "Share of no entries", share(numbered(0, "*"), 0, 0), failed(api.ErrRange))
	expect(t, "Fits of nothing", fits(api.Mixed{}, 0), failed(api.ErrRange))
	expect(t, "Fits of no entries", fits(numbered(0, "*"), 0), told(0))
}

// A nil list and an empty one are the same value.
func TestNilAndEmpty(t *testing.T) {
	none := []string{}
	for what, both := range map[string][2]api.Mixed{
		"boxes":  {{Cards: sample().Cards}, {Boxes: []api.Box{}, Cards: sample().Cards}},
		"cards":  {{Boxes: sampleBoxes()}, {Boxes: sampleBoxes(), Cards: []api.Torn{}}},
		"titles": {{Boxes: []api.Box{{Colour: 1}, box(2, "a")}, Cards: sample().Cards[2:]}, {Boxes: []api.Box{{Colour: 1, Titles: none}, box(2, "a")}, Cards: sample().Cards[2:]}},
	} {
		for name, want := range everything(both[0], 0, 0) {
			expect(t, what+": "+name, everything(both[1], 0, 0)[name], want)
		}
	}
}
