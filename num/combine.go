package num

import (
	"slices"

	"foregone/api"
)

// Add returns a + b.
func Add(a, b api.Int) (api.Int, api.Errno) { return combine('+', a, b) }

// Sub returns a - b.
func Sub(a, b api.Int) (api.Int, api.Errno) { return combine('-', a, b) }

// Mul returns a * b.
func Mul(a, b api.Int) (api.Int, api.Errno) { return combine('*', a, b) }

// Div returns the quotient of a and b, rounded down.
func Div(a, b api.Int) (api.Int, api.Errno) { return combine('/', a, b) }

// Mod returns what Div leaves.
func Mod(a, b api.Int) (api.Int, api.Errno) { return combine('%', a, b) }

// Pow returns a to the power of b.
func Pow(a, b api.Int) (api.Int, api.Errno) { return combine('^', a, b) }

// way is a way to combine two integers: which second ones it refuses, and what it calculates of both.
type way struct {
	refuse func(b api.Int) api.Errno
	apply  func(a, b api.Int) api.Int
}

func ways() map[byte]way {
	return map[byte]way{
		'+': {refuseNone, plus},
		'-': {refuseNone, minus},
		'*': {refuseNone, times},
		'/': {refuseZero, quotient},
		'%': {refuseZero, remainder},
		'^': {refuseNegative, power},
	}
}

// combine combines two integers in the way with a sign.
func combine(sign byte, a, b api.Int) (api.Int, api.Errno) {
	if e := checkAll(a, b); e != api.OK {
		return api.Int{}, e
	}
	w := ways()[sign]
	if e := w.refuse(b); e != api.OK {
		return api.Int{}, e
	}
	return within(func() api.Int { return w.apply(a, b) })
}

// within returns what f calculates; ErrLimit if f finds that it becomes too large, or if it is.
func within(f func() api.Int) (r api.Int, e api.Errno) {
	defer func() {
		if recover() != nil {
			r, e = api.Int{}, api.ErrLimit
		}
	}()
	r = f()
	mustFit(r)
	return r, api.OK
}

// mustFit ends a calculation whose number is too large, wherever it is: within recovers.
func mustFit(a api.Int) {
	if len(a.D) > api.MaxParts {
		panic(api.ErrLimit)
	}
}

func refuseNone(b api.Int) api.Errno { return api.OK }

func refuseZero(b api.Int) api.Errno {
	if Sign(b) == 0 {
		return api.ErrZero
	}
	return api.OK
}

func refuseNegative(b api.Int) api.Errno {
	if Sign(b) < 0 {
		return api.ErrArg
	}
	return api.OK
}

// The calculations below take and return numbers with any count of parts; results are new memory.

func plus(a, b api.Int) api.Int {
	if a.Neg == b.Neg {
		return signed(a.Neg, addParts(a.D, b.D))
	}
	if compareParts(a.D, b.D) < 0 {
		a, b = b, a
	}
	return signed(a.Neg, subParts(a.D, b.D))
}

func minus(a, b api.Int) api.Int { return plus(a, opposite(b)) }

func times(a, b api.Int) api.Int { return signed(a.Neg != b.Neg, mulParts(a.D, b.D)) }

func quotient(a, b api.Int) api.Int {
	q, _ := divide(a, b)
	return q
}

func remainder(a, b api.Int) api.Int {
	_, r := divide(a, b)
	return r
}

// divide returns the quotient, rounded down, and the remainder.
func divide(a, b api.Int) (q, r api.Int) {
	parts, rest := divParts(a.D, b.D)
	if a.Neg == b.Neg {
		return signed(false, parts), signed(b.Neg, rest)
	}
	if len(rest) > 0 { // the fraction lies between -parts and the next lower integer
		parts = addParts(parts, []int{1})
		rest = subParts(b.D, rest)
	}
	return signed(true, parts), signed(b.Neg, rest)
}

// power returns a to the power of b, which is not negative.
func power(a, b api.Int) api.Int {
	if len(a.D) == 0 || slices.Equal(a.D, []int{1}) {
		return powerOfUnit(a, b)
	}
	if len(b.D) > 1 {
		panic(api.ErrLimit) // at least 2 to the power of Base
	}
	result, square, left := FromInt(1), a, 0
	if len(b.D) == 1 {
		left = b.D[0]
	}
	for ; left > 0; left /= 2 {
		if left%2 == 1 {
			result = times(result, square)
			mustFit(result)
		}
		if left > 1 { // a later factor is at least the next square, so that it must fit
			square = times(square, square)
			mustFit(square)
		}
	}
	return result
}

// powerOfUnit returns the power of 0, 1 or -1, which depends on the exponent being 0, odd or even alone.
func powerOfUnit(a, b api.Int) api.Int {
	odd := len(b.D) > 0 && b.D[0]%2 == 1
	switch {
	case len(b.D) == 0:
		return FromInt(1)
	case len(a.D) == 0:
		return api.Int{}
	}
	return signed(a.Neg && odd, []int{1})
}
