package years

// slope is by how much higher a thing stands for each millimetre that it is farther away: its place above the middle, divided by the focal length.
type slope struct{ rise, run int }

// meets returns whether two slopes have the same height, rounded down, at one of these distances; there are some.
func (s slope) meets(other slope, far span) bool {
	steeper := s.rise*other.run - other.rise*s.run
	if steeper < 0 {
		return other.meets(s, far)
	}
	if steeper > 0 {
		// At any greater distance the heights are apart by 1 or more before they are rounded.
		far.Hi = min(far.Hi, (s.run*other.run-1)/steeper)
	}
	if far.Lo > far.Hi {
		return false
	}
	// What is left rounds to heights that differ by 0 or 1: by 1 at all distances just if their sums differ by as many.
	whole := down(other.rise, other.run)
	return s.flatter(whole).sum(far)-other.flatter(whole).sum(far) < far.Hi-far.Lo+1
}

// flatter returns a slope that is less steep by a whole number.
func (s slope) flatter(whole int) slope { return slope{s.rise - whole*s.run, s.run} }

// sum returns the sum of the heights, each rounded down, at all of these distances; the slope does not fall.
func (s slope) sum(far span) int {
	return floors(far.Hi-far.Lo+1, s.rise, s.rise*far.Lo, s.run)
}

// floors returns the sum of (step*k + start) / by, each rounded down, for the first many numbers k from 0 on; none of the numbers is below 0.
func floors(many, step, start, by int) int {
	whole := many*(many-1)/2*(step/by) + many*(start/by)
	step, start = step%by, start%by
	top := step*many + start
	if top < by {
		return whole
	}
	// The sum counts the points with whole numbers below a line; from here on they are counted by rows, not by columns.
	return whole + floors(top/by, by, top%by, step)
}
