package paint

import (
	"pairworks/api"
	"pairworks/match"
)

// looked is a valid canvas that is looked at.
type looked struct {
	api.Canvas
	known map[painted]bool // whether the rows have a way without these marks, as far as that was asked
}

func look(c api.Canvas) looked { return looked{c, map[painted]bool{}} }

func valid(c api.Canvas) bool {
	_, e := match.Count(c.Rows)
	return e == api.OK && c.Painted >= 0 && c.Painted <= api.MaxPainted
}

func (l looked) rows() [allRows][]api.Mark {
	return [allRows][]api.Mark{leftRow: l.Rows.Left, rightRow: l.Rows.Right}
}

// hasMarks returns whether sets have no other marks than those of the rows.
func (l looked) hasMarks(p painted) bool {
	for row, marks := range l.rows() {
		if !p[row].isPartOf(below(len(marks))) {
			return false
		}
	}
	return true
}

// without returns the rows without these marks.
func (l looked) without(p painted) api.Rows {
	r := l.Rows
	r.Left, r.Right = staying(r.Left, p[leftRow]), staying(r.Right, p[rightRow])
	return r
}

// staying returns what stays of a row, as a new list, if some of it is gone.
func staying[T any](row []T, gone set) []T {
	var stays []T
	for k, one := range row {
		if !gone.has(k) {
			stays = append(stays, one)
		}
	}
	return stays
}

// hasWay returns whether the rows have a way without these marks.
func (l looked) hasWay(p painted) bool {
	has, asked := l.known[p]
	if !asked {
		ways, e := match.Count(l.without(p))
		require(e == api.OK, e)
		has = ways > 0
		l.known[p] = has
	}
	return has
}

// isFew returns whether no more marks were painted than can have been.
func (l looked) isFew(p painted) bool { return p.many() <= l.Painted }
