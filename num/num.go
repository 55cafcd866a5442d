// Package num calculates with integers of any size. See shared/doc/01-num.md.
package num

import (
	"iter"
	"slices"

	"foregone/api"
)

// Check returns ErrInt unless a is an integer.
func Check(a api.Int) api.Errno {
	if len(a.D) > api.MaxParts {
		return api.ErrInt
	}
	if len(a.D) == 0 {
		if a.Neg {
			return api.ErrInt
		}
		return api.OK
	}
	for _, part := range a.D {
		if part < 0 || part >= api.Base {
			return api.ErrInt
		}
	}
	if a.D[len(a.D)-1] == 0 {
		return api.ErrInt
	}
	return api.OK
}

// checkAll returns ErrInt unless all of list are integers.
func checkAll(list ...api.Int) api.Errno {
	for _, a := range list {
		if e := Check(a); e != api.OK {
			return e
		}
	}
	return api.OK
}

// FromInt returns the integer of an int.
func FromInt(n int) api.Int {
	size := uint64(n)
	if n < 0 {
		size = -size // the size of -2^63 is no int
	}
	var parts []int
	for ; size > 0; size /= api.Base {
		parts = append(parts, int(size%api.Base))
	}
	return signed(n < 0, parts)
}

// ToInt returns the int of an integer.
func ToInt(a api.Int) (int, api.Errno) {
	if e := Check(a); e != api.OK {
		return 0, e
	}
	most := uint64(1<<63 - 1)
	if a.Neg {
		most++
	}
	size := uint64(0)
	for part := range fromTop(a.D) {
		if size > (most-uint64(part))/api.Base {
			return 0, api.ErrLimit
		}
		size = size*api.Base + uint64(part)
	}
	if a.Neg {
		size = -size
	}
	return int(size), api.OK
}

// signed returns the number with a sign and a list of parts, which may end with zeros. It keeps the list.
func signed(neg bool, parts []int) api.Int {
	parts = cut(parts)
	return api.Int{Neg: neg && len(parts) > 0, D: parts}
}

// cut returns a list without the zeros at its end.
func cut[T comparable](list []T) []T {
	var zero T
	for len(list) > 0 && list[len(list)-1] == zero {
		list = list[:len(list)-1]
	}
	return list
}

// fromTop yields parts from the most significant one on.
func fromTop(parts []int) iter.Seq[int] {
	return func(yield func(int) bool) {
		for i := len(parts) - 1; i >= 0; i-- {
			if !yield(parts[i]) {
				return
			}
		}
	}
}

// Compare returns -1, 0 or 1 as a is less than, equal to or greater than b.
func Compare(a, b api.Int) int {
	switch {
	case a.Neg && !b.Neg:
		return -1
	case b.Neg && !a.Neg:
		return 1
	case a.Neg:
		return compareParts(b.D, a.D)
	}
	return compareParts(a.D, b.D)
}

// Sign returns -1, 0 or 1 as a is less than, equal to or greater than 0.
func Sign(a api.Int) int {
	switch {
	case len(a.D) == 0:
		return 0
	case a.Neg:
		return -1
	}
	return 1
}

// Neg returns -a.
func Neg(a api.Int) (api.Int, api.Errno) {
	if e := Check(a); e != api.OK {
		return api.Int{}, e
	}
	return opposite(a), api.OK
}

// opposite returns -a, in new memory.
func opposite(a api.Int) api.Int {
	return signed(!a.Neg, slices.Clone(a.D))
}

// copied returns a in new memory.
func copied(a api.Int) api.Int {
	return api.Int{Neg: a.Neg, D: slices.Clone(a.D)}
}
