package match_test

import (
	"math/rand/v2"
	"slices"
	"testing"

	"pairworks/api"
)

// shiftsOf returns all shifts of two marks, number by number; none if they do not fit.
func shiftsOf(r api.Rows, left, right int) map[int]bool {
	shifts, l, o := map[int]bool{}, r.Left[left], r.Right[right]
	agree := false
	for tone := l.Tone.Lo; tone <= l.Tone.Hi; tone++ {
		agree = agree || holds(o.Tone, tone)
	}
	for a := l.At.Lo; agree && a <= l.At.Hi; a++ {
		for b := o.At.Lo; b <= o.At.Hi; b++ {
			if holds(r.Shift, a-b) {
				shifts[a-b] = true
			}
		}
	}
	return shifts
}

func holds(s api.Span, n int) bool { return s.Lo <= n && n <= s.Hi }

// hiddenBy returns how many marks a list of pairs hides.
func hiddenBy(r api.Rows, pairs [][2]int) int { return len(r.Left) + len(r.Right) - 2*len(pairs) }

// joins returns whether a pair can be in one way with others.
func joins(p [2]int, others [][2]int) bool {
	for _, q := range others {
		if p[0] == q[0] || p[1] == q[1] || (p[0] < q[0]) != (p[1] < q[1]) {
			return false
		}
	}
	return true
}

// findWays returns all ways in their order, found by going through all sets of pairs that fit.
func findWays(r api.Rows) [][][2]int {
	var fit [][2]int
	for left := range r.Left {
		for right := range r.Right {
			if len(shiftsOf(r, left, right)) > 0 {
				fit = append(fit, [2]int{left, right})
			}
		}
	}
	var ways [][][2]int
	var try func(k int, pairs [][2]int)
	try = func(k int, pairs [][2]int) {
		if k == len(fit) {
			if hiddenBy(r, pairs) <= r.Hidden {
				ways = append(ways, slices.Clone(pairs))
			}
			return
		}
		try(k+1, pairs)
		if joins(fit[k], pairs) {
			try(k+1, append(slices.Clone(pairs), fit[k]))
		}
	}
	try(0, nil)
	slices.SortFunc(ways, func(a, b [][2]int) int {
		return slices.CompareFunc(a, b, func(p, q [2]int) int { return slices.Compare(p[:], q[:]) })
	})
	return ways
}

// partner returns the right mark of a left one in a way, or NoMark.
func partner(pairs [][2]int, left int) int {
	for _, p := range pairs {
		if p[0] == left {
			return p[1]
		}
	}
	return api.NoMark
}

func wantFewest(r api.Rows, ways [][][2]int) outcome {
	if len(ways) == 0 {
		return failed(api.ErrNone)
	}
	best := ways[0]
	for _, w := range ways {
		if hiddenBy(r, w) < hiddenBy(r, best) {
			best = w
		}
	}
	return way(hiddenBy(r, best), best...)
}

func wantCan(r api.Rows, ways [][][2]int) outcome {
	if len(ways) == 0 {
		return failed(api.ErrNone)
	}
	can := make([]int, len(r.Left))
	for _, w := range ways {
		for _, p := range w {
			can[p[0]] |= 1 << p[1]
		}
	}
	return list(can...)
}

func wantSure(r api.Rows, ways [][][2]int) outcome {
	if len(ways) == 0 {
		return failed(api.ErrNone)
	}
	sure := make([]int, len(r.Left))
	for left := range sure {
		sure[left] = partner(ways[0], left)
		for _, w := range ways {
			if partner(w, left) != sure[left] {
				sure[left] = api.NoMark
			}
		}
	}
	return list(sure...)
}

func wantHides(r api.Rows, ways [][][2]int) outcome {
	if len(ways) == 0 {
		return failed(api.ErrNone)
	}
	left, right := 0, 0
	for _, w := range ways {
		l, o := 1<<len(r.Left)-1, 1<<len(r.Right)-1
		for _, p := range w {
			l, o = l&^(1<<p[0]), o&^(1<<p[1])
		}
		left, right = left|l, right|o
	}
	return numbers(left, right)
}

func wantShift(r api.Rows, ways [][][2]int, left int) outcome {
	var all []int
	for _, w := range ways {
		if right := partner(w, left); right != api.NoMark {
			for n := range shiftsOf(r, left, right) {
				all = append(all, n)
			}
		}
	}
	if len(all) == 0 {
		return failed(api.ErrNone)
	}
	return is(span(slices.Min(all), slices.Max(all)))
}

// leaves returns how many ways are left at most if it is known with which mark a left one is a pair, or that it is hidden.
func leaves(ways [][][2]int, left int) int {
	many := map[int]int{}
	for _, w := range ways {
		many[partner(w, left)]++
	}
	most := 0
	for _, n := range many {
		most = max(most, n)
	}
	return most
}

func wantAsk(r api.Rows, ways [][][2]int) outcome {
	if len(ways) < 2 {
		return failed(api.ErrNone)
	}
	best := 0
	for left := range r.Left {
		if leaves(ways, left) < leaves(ways, best) {
			best = left
		}
	}
	return numbers(best, leaves(ways, best))
}

// anyRows returns rows with marks that can be the same, or nearly so.
func anyRows(r *rand.Rand) api.Rows {
	tones := 1 + r.IntN(3)
	row := func(at int) (marks []api.Mark) {
		step := 1 + r.IntN(4)
		for range r.IntN(6) {
			at += r.IntN(step + 1)
			tone := r.IntN(tones)
			marks = append(marks, mark(at, at+r.IntN(4), tone, tone+r.IntN(2)))
		}
		return marks
	}
	lo := r.IntN(10) - 4
	rows := api.Rows{Left: row(10 + r.IntN(6)), Right: row(10), Shift: span(lo, lo+r.IntN(8))}
	rows.Hidden = r.IntN(len(rows.Left) + len(rows.Right) + 3)
	return rows
}

// Each result is what all ways tell, one by one.
func TestAgainstAllWays(t *testing.T) {
	r := rand.New(rand.NewPCG(1, 2))
	none, some, several := 0, 0, 0
	for range 4000 {
		rows := anyRows(r)
		ways := findWays(rows)
		expect(t, "Count", count(rows), number(len(ways)))
		expect(t, "Fewest", fewest(rows), wantFewest(rows, ways))
		expect(t, "Can", can(rows), wantCan(rows, ways))
		expect(t, "Sure", sure(rows), wantSure(rows, ways))
		expect(t, "Hides", hides(rows), wantHides(rows, ways))
		expect(t, "Ask", ask(rows), wantAsk(rows, ways))
		for left := range rows.Left {
			expect(t, "Shift", shift(rows, left), wantShift(rows, ways, left))
			for right := range rows.Right {
				expect(t, "Fits", fits(rows, left, right), truly(len(shiftsOf(rows, left, right)) > 0))
			}
		}
		if t.Failed() {
			t.Fatalf("the rows are %v", rows)
		}
		switch {
		case len(ways) == 0:
			none++
		case len(ways) < 10:
			some++
		default:
			several++
		}
	}
	if min(none, some, several) < 300 {
		t.Errorf("%d rows have no way, %d some, and %d several", none, some, several)
	}
}
