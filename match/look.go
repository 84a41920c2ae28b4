package match

import (
	"iter"

	"pairworks/api"
)

// looked is valid rows that are looked at.
type looked struct {
	api.Rows
	fit [api.MaxMarks][api.MaxMarks]bool // a left mark, and a right one
	all options
}

// look looks at rows; it returns ErrArg unless they are valid.
func look(r api.Rows) (looked, api.Errno) {
	if !valid(r) {
		return looked{}, api.ErrArg
	}
	l := looked{Rows: r}
	rules := l.agreements()
pairs:
	for left, right := range l.pairs() {
		for _, rule := range rules {
			if empty(overlap(rule.numbers(r.Left[left], r.Right[right]))) {
				continue pairs
			}
		}
		l.fit[left][right] = true
	}
	l.all = l.choose()
	return l, api.OK
}

// lookForWays looks at rows, to ask about the ways of them and about some left marks: these must be marks, and there must be a way.
func lookForWays(r api.Rows, lefts ...int) (looked, api.Errno) {
	l, e := look(r)
	if e != api.OK {
		return looked{}, e
	}
	for _, left := range lefts {
		if !isMark(left, r.Left) {
			return looked{}, api.ErrRange
		}
	}
	if l.count(l.all) == 0 {
		return looked{}, api.ErrNone
	}
	return l, api.OK
}

func valid(r api.Rows) bool {
	return validMarks(r.Left) && validMarks(r.Right) &&
		within(r.Shift, span(-api.MaxAt, api.MaxAt)) &&
		r.Hidden >= 0 && r.Hidden <= 2*api.MaxMarks
}

func validMarks(row []api.Mark) bool {
	if len(row) > api.MaxMarks {
		return false
	}
	for _, m := range row {
		if !within(m.At, span(0, api.MaxAt)) || !within(m.Tone, span(0, api.MaxTone)) {
			return false
		}
	}
	return true
}

// isMark returns whether a number is that of a mark of a row.
func isMark(k int, row []api.Mark) bool { return k >= 0 && k < len(row) }

// agreement is what must agree of two marks that fit: both spans of numbers, which must have one in common.
type agreement struct {
	numbers func(left, right api.Mark) (one, other api.Span)
}

func (l looked) agreements() []agreement {
	return []agreement{
		{func(left, right api.Mark) (one, other api.Span) { return left.Tone, right.Tone }},
		{func(left, right api.Mark) (one, other api.Span) { return apart(left, right), l.Shift }},
	}
}

// apart returns by how much a left mark can stand farther to the right than a right one.
func apart(left, right api.Mark) api.Span {
	return span(left.At.Lo-right.At.Hi, left.At.Hi-right.At.Lo)
}

// shift returns the shift of two marks that fit.
func (l looked) shift(left, right api.Mark) api.Span {
	return overlap(apart(left, right), l.Shift)
}

// pairs yields each left mark with each right one, in the order in which ways tell them.
func (l looked) pairs() iter.Seq2[int, int] {
	return func(yield func(left, right int) bool) {
		for left := range l.Left {
			for right := range l.Right {
				if !yield(left, right) {
					return
				}
			}
		}
	}
}
