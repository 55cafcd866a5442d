package num

import "foregone/api"

// line is a number that is a multiple of one integer, x times, and of another one, y times.
type line struct{ n, x, y api.Int }

// less returns the line, less another one q times.
func (l line) less(m line, q api.Int) line {
	return line{minus(l.n, times(q, m.n)), minus(l.x, times(q, m.x)), minus(l.y, times(q, m.y))}
}

func (l line) opposite() line { return line{opposite(l.n), opposite(l.x), opposite(l.y)} }

// Bezout returns the greatest common divisor g of a and b, and x and y with a * x + b * y = g.
func Bezout(a, b api.Int) (g, x, y api.Int, e api.Errno) {
	if e := checkAll(a, b); e != api.OK {
		return api.Int{}, api.Int{}, api.Int{}, e
	}
	ahead := line{copied(a), FromInt(1), api.Int{}} // copies, for each of them may be the result
	last := line{copied(b), api.Int{}, FromInt(1)}
	for Sign(last.n) != 0 {
		ahead, last = last, ahead.less(last, quotient(ahead.n, last.n))
	}
	if Sign(ahead.n) < 0 {
		ahead = ahead.opposite()
	}
	return ahead.n, ahead.x, ahead.y, api.OK
}

// Root returns the greatest integer whose square is not greater than a.
func Root(a api.Int) (api.Int, api.Errno) {
	if e := Check(a); e != api.OK {
		return api.Int{}, e
	}
	if Sign(a) < 0 {
		return api.Int{}, api.ErrArg
	}
	return signed(false, rootParts(a.D)), api.OK
}

// Cross compares the fractions a / b and c / d.
func Cross(a, b, c, d api.Int) (int, api.Errno) {
	if e := checkAll(a, b, c, d); e != api.OK {
		return 0, e
	}
	if Sign(b) <= 0 || Sign(d) <= 0 {
		return 0, api.ErrArg
	}
	return Compare(times(a, d), times(c, b)), api.OK
}

// Choose returns the number of subsets with k elements of a set with n elements.
func Choose(n, k int) (api.Int, api.Errno) {
	if n < 0 || n > api.MaxElems {
		return api.Int{}, api.ErrArg
	}
	if k < 0 || k > n {
		return api.Int{}, api.OK
	}
	return within(func() api.Int { return choices(n, min(k, n-k)) })
}

// choices returns the number of choices of k out of n; k is at most half of n, so that no number on the way is greater than the last one.
func choices(n, k int) api.Int {
	result := FromInt(1)
	for i := range k {
		parts, _ := divSmall(mulSmall(result.D, n-i), i+1)
		result = signed(false, parts)
		mustFit(result)
	}
	return result
}
