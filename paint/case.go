package paint

import (
	"iter"

	"pairworks/api"
)

// sets yields all sets of marks of one row alone: no mark, then those of Left, and then those of Right.
func (l looked) sets() iter.Seq[painted] {
	return func(yield func(painted) bool) {
		if !yield(painted{}) {
			return
		}
		for row, marks := range l.rows() {
			for s := set(1); s <= below(len(marks)); s++ {
				var p painted
				p[row] = s
				if !yield(p) {
					return
				}
			}
		}
	}
}

// cases yields all cases that are wanted.
func (l looked) cases(wanted func(painted) bool) iter.Seq[painted] {
	// What costs the least is asked first.
	questions := []func(painted) bool{wanted, l.isFew, l.hasWay}
	return func(yield func(painted) bool) {
	sets:
		for p := range l.sets() {
			for _, holds := range questions {
				if !holds(p) {
					continue sets
				}
			}
			if !yield(p) {
				return
			}
		}
	}
}

// anyCase wants each case.
func anyCase(painted) bool { return true }

// count returns how many cases there are that are wanted.
func (l looked) count(wanted func(painted) bool) (many int) {
	count := func(painted) (goOn bool) {
		many++
		return true
	}
	l.cases(wanted)(count)
	return many
}

// requireCase stops the asking unless there is a case.
func (l looked) requireCase() { require(l.count(anyCase) > 0, api.ErrNone) }

// sides returns, as bits, which pictures were painted in some case.
func (l looked) sides() int {
	l.requireCase()
	bits := 0
	for p := range l.cases(anyCase) {
		bits |= p.side()
	}
	return bits
}
