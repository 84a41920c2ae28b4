package paint

import "pairworks/api"

// split is a mark, by its side and its number, and how many cases are left at most when a lens has told of it.
type split struct{ side, mark, left int }

// lens returns the mark with which the fewest cases are left.
func (l looked) lens() split {
	all := l.count(anyCase)
	require(all > 1, api.ErrNone)
	// Two cases differ by some mark, so that fewer than all are left with it.
	best := split{left: all}
	for row, marks := range l.rows() {
		for mark := range marks {
			has := func(p painted) bool { return p[row].has(mark) }
			with := l.count(has)
			if left := max(with, all-with); left < best.left {
				best = split{sideOf(row), mark, left}
			}
		}
	}
	return best
}
