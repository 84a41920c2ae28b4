package match

import "pairworks/api"

// hidden is the option of a left mark that is in no pair; all others are right marks.
const hidden = api.MaxMarks

// options is which options each left mark has.
type options [api.MaxMarks]set

// only returns the options, if this left mark has none but this one.
func (o options) only(left, option int) options {
	o[left] = o[left].both(setOf(option))
	return o
}

// without returns the options, if no left mark has this one.
func (o options) without(option int) options {
	for left, all := range o {
		o[left] = all.without(setOf(option))
	}
	return o
}

// choose returns all options of the left marks.
func (l looked) choose() options {
	var o options
	for left := range l.Left {
		fits := gather(len(l.Right), func(right int) bool { return l.fit[left][right] })
		o[left] = join(setOf(hidden), fits)
	}
	return o
}

// rest is what is left of both rows: the marks from these two on, of which so many can be hidden.
type rest struct{ left, right, hidden int }

// behind returns what is left if the first left mark has this option.
func (r rest) behind(option int) rest {
	if option == hidden {
		return rest{r.left + 1, r.right, r.hidden - 1}
	}
	return rest{r.left + 1, option + 1, r.hidden - (option - r.right)}
}

// count returns how many ways there are with no other options.
func (l looked) count(o options) int {
	known := map[rest]int{}
	var count func(rest) int
	count = func(r rest) int {
		if r.left == len(l.Left) {
			return l.end(r)
		}
		ways, asked := known[r]
		if asked || r.hidden < 0 {
			return ways
		}
		for option := range marks(hidden+1, o[r.left].has) {
			if option >= r.right {
				ways += count(r.behind(option))
			}
		}
		known[r] = ways
		return ways
	}
	return count(rest{hidden: l.Hidden})
}

// end returns 1 if all right marks that are left can be hidden, and otherwise 0; no left mark is left.
func (l looked) end(r rest) int {
	if len(l.Right)-r.right > r.hidden {
		return 0
	}
	return 1
}

// fewest returns how many marks are hidden at least; there is a way, so that one is found.
func (l looked) fewest() int {
	l.Hidden = 0
	for l.count(l.all) == 0 {
		l.Hidden++
	}
	return l.Hidden
}

// first returns the first of all ways, none of which hides fewer marks than another one; there is a way.
func (l looked) first() [][2]int {
	var pairs [][2]int
	many := (len(l.Left) + len(l.Right) - l.Hidden) / 2
	o := l.all
search:
	for left, right := range l.pairs() {
		// Pairs are tried in the order in which ways tell them: the first one with which there is still a way is in the first way.
		with := o.only(left, right)
		switch {
		case len(pairs) == many:
			break search
		case l.count(with) > 0:
			pairs = append(pairs, [2]int{left, right})
			o = with
		}
	}
	return pairs
}

// split returns how many ways there are with each option of a left mark.
func (l looked) split(left int) [hidden + 1]int {
	var ways [hidden + 1]int
	for option := range marks(hidden+1, l.all[left].has) {
		ways[option] = l.count(l.all.only(left, option))
	}
	return ways
}

// partners returns the right marks with which a left one is a pair in some way.
func (l looked) partners(left int) set {
	ways := l.split(left)
	return gather(len(l.Right), func(right int) bool { return ways[right] > 0 })
}

// surePartner returns the right mark with which a left one is a pair in each way, or NoMark; there is a way.
func (l looked) surePartner(left int) int {
	all := l.count(l.all)
	ways := l.split(left)
	for right := range l.Right {
		if ways[right] == all {
			return right
		}
	}
	return api.NoMark
}

// leaves returns how many ways are left, at most, if the option of a left mark is known.
func (l looked) leaves(left int) int {
	var ways ends[int]
	for _, n := range l.split(left) {
		ways.take(n)
	}
	return ways.greatest
}

func (l looked) hidesLeft(left int) bool { return l.split(left)[hidden] > 0 }

func (l looked) hidesRight(right int) bool { return l.count(l.all.without(right)) > 0 }
