package num

import (
	"cmp"

	"foregone/api"
)

// What follows calculates with lists of parts, the least significant one first, of any length. Arguments and results end with no zeros, unless a comment says otherwise, and results are new memory.

// compareParts compares two lists, the shorter one first, then by the last place where they are different.
func compareParts(a, b []int) int {
	if len(a) != len(b) {
		return cmp.Compare(len(a), len(b))
	}
	for i := len(a) - 1; i >= 0; i-- {
		if a[i] != b[i] {
			return cmp.Compare(a[i], b[i])
		}
	}
	return 0
}

func addParts(a, b []int) []int {
	if len(a) < len(b) {
		a, b = b, a
	}
	sum := make([]int, len(a)+1)
	carry := 0
	for i, part := range a {
		part += carry
		if i < len(b) {
			part += b[i]
		}
		sum[i], carry = part%api.Base, part/api.Base
	}
	sum[len(a)] = carry
	return cut(sum)
}

// subParts returns a - b; b is not greater than a.
func subParts(a, b []int) []int {
	rest := make([]int, len(a))
	borrow := 0
	for i, part := range a {
		part -= borrow
		if i < len(b) {
			part -= b[i]
		}
		borrow = 0
		if part < 0 {
			part, borrow = part+api.Base, 1
		}
		rest[i] = part
	}
	return cut(rest)
}

func mulParts(a, b []int) []int {
	product := make([]int, len(a)+len(b))
	for i, part := range a {
		carry := 0
		for j, other := range b {
			sum := product[i+j] + part*other + carry
			product[i+j], carry = sum%api.Base, sum/api.Base
		}
		product[i+len(b)] = carry
	}
	return cut(product)
}

// mulSmall returns n times a, with one more part than a has, which may be 0; n is from 0 to Base.
func mulSmall(a []int, n int) []int {
	product := make([]int, len(a)+1)
	carry := 0
	for i, part := range a {
		sum := part*n + carry
		product[i], carry = sum%api.Base, sum/api.Base
	}
	product[len(a)] = carry
	return product
}

// divSmall returns the quotient and the remainder of a, which may end with zeros, and n, which is from 1 to Base.
func divSmall(a []int, n int) ([]int, int) {
	quotient := make([]int, len(a))
	rest := 0
	for i := len(a) - 1; i >= 0; i-- {
		sum := rest*api.Base + a[i]
		quotient[i], rest = sum/n, sum%n
	}
	return cut(quotient), rest
}

// divParts returns the quotient and the remainder of a and b, which is not 0.
func divParts(a, b []int) (quotient, rest []int) {
	if compareParts(a, b) < 0 {
		return nil, cut(append(rest, a...))
	}
	if len(b) == 1 {
		quotient, last := divSmall(a, b[0])
		return quotient, cut([]int{last})
	}
	return divLong(a, b)
}

// divLong divides by at least two parts, as one does by hand. Both numbers are scaled first, so that the divisor's top part is at least half of Base: then a part of the quotient that is guessed from the topmost parts is hardly ever wrong.
func divLong(a, b []int) (quotient, rest []int) {
	n := len(b)
	scale := api.Base / (b[n-1] + 1)
	left := mulSmall(a, scale)
	divisor := mulSmall(b, scale)[:n]
	quotient = make([]int, len(a)-n+1)
	for i := len(a) - n; i >= 0; i-- {
		quotient[i] = takeOut(left[i:i+n+1], divisor)
	}
	rest, _ = divSmall(left[:n], scale)
	return cut(quotient), rest
}

// takeOut subtracts the divisor from what is left, which has one part more, as often as possible, and returns how often.
func takeOut(left, divisor []int) int {
	n := len(divisor)
	top := left[n]*api.Base + left[n-1]
	times, over := top/divisor[n-1], top%divisor[n-1]
	for over < api.Base && times*divisor[n-2] > over*api.Base+left[n-2] {
		times--
		over += divisor[n-1]
	}
	subtractTimes(left, divisor, times)
	if left[n] < 0 {
		addBack(left, divisor)
		times--
	}
	return times
}

// subtractTimes changes what is left by a multiple of the divisor; its top part may become negative.
func subtractTimes(left, divisor []int, times int) {
	borrow := 0
	for i, part := range divisor {
		sum := left[i] - part*times - borrow
		left[i] = (sum%api.Base + api.Base) % api.Base
		borrow = (left[i] - sum) / api.Base
	}
	left[len(divisor)] -= borrow
}

func addBack(left, divisor []int) {
	carry := 0
	for i, part := range divisor {
		sum := left[i] + part + carry
		left[i], carry = sum%api.Base, sum/api.Base
	}
	left[len(divisor)] += carry
}

// rootParts returns the greatest number whose square is not greater than a, by Newton's way, from a number that is not too small downwards.
func rootParts(a []int) []int {
	if len(a) == 0 {
		return nil
	}
	root := make([]int, (len(a)+1)/2+1)
	root[len(root)-1] = 1
	for {
		quotient, _ := divParts(a, root)
		better, _ := divSmall(addParts(root, quotient), 2)
		if compareParts(better, root) >= 0 {
			return root
		}
		root = better
	}
}
