package num_test

import (
	"math/big"
	"math/rand/v2"
	"slices"
	"strings"
	"testing"

	"foregone/api"
	"foregone/num"
)

// The tests compare with math/big, which plays no part in the program.

var bound = new(big.Int).Exp(big.NewInt(10), big.NewInt(360), nil)

func toBig(a api.Int) *big.Int {
	sum := new(big.Int)
	for i := len(a.D) - 1; i >= 0; i-- {
		sum.Mul(sum, big.NewInt(api.Base))
		sum.Add(sum, big.NewInt(int64(a.D[i])))
	}
	if a.Neg {
		sum.Neg(sum)
	}
	return sum
}

func fromBig(b *big.Int) api.Int {
	left := new(big.Int).Abs(b)
	a := api.Int{Neg: b.Sign() < 0}
	for part := new(big.Int); left.Sign() > 0; {
		left.QuoRem(left, big.NewInt(api.Base), part)
		a.D = append(a.D, int(part.Int64()))
	}
	return a
}

// of returns the integer of a text, by math/big.
func of(s string) api.Int {
	b, ok := new(big.Int).SetString(s, 10)
	if !ok {
		panic("no number: " + s)
	}
	return fromBig(b)
}

func small(n int) api.Int { return fromBig(big.NewInt(int64(n))) }

func same(a, b api.Int) bool { return a.Neg == b.Neg && slices.Equal(a.D, b.D) }

func isZero(a api.Int) bool { return !a.Neg && len(a.D) == 0 }

// notIntegers returns a value of each sort that is no integer.
func notIntegers() []api.Int {
	many := make([]int, api.MaxParts+1)
	for i := range many {
		many[i] = 1
	}
	return []api.Int{
		{Neg: true},
		{Neg: true, D: []int{}},
		{D: []int{0}},
		{Neg: true, D: []int{0}},
		{D: []int{1, 0}},
		{D: []int{-1}},
		{D: []int{-1, 1}},
		{D: []int{api.Base}},
		{D: []int{api.Base, 1}},
		{D: []int{5, 1 << 62}},
		{D: []int{-1 << 63}},
		{D: many},
		{Neg: true, D: many},
	}
}

// samples returns integers of all sizes: those at the edges, and some at random (always the same).
func samples(random int) []api.Int {
	var list []api.Int
	add := func(b *big.Int) {
		list = append(list, fromBig(b), fromBig(new(big.Int).Neg(b)))
	}
	list = append(list, api.Int{})
	for _, s := range []string{"1", "2", "3", "10", "999999999", "1000000000", "1000000001", "999999999999999999", "1000000000000000000", "4611686018427387904", "9223372036854775807", "9223372036854775808", "9223372036854775809", "18446744073709551616"} {
		b, _ := new(big.Int).SetString(s, 10)
		add(b)
	}
	add(new(big.Int).Exp(big.NewInt(10), big.NewInt(180), nil))
	add(new(big.Int).Exp(big.NewInt(10), big.NewInt(359), nil))
	add(new(big.Int).Sub(bound, big.NewInt(1)))
	source := rand.New(rand.NewPCG(1, 2))
	for range random {
		add(randomBig(source, 1+source.IntN(api.MaxParts)))
	}
	return list
}

// randomBig returns a number with so many parts, among which the extreme ones are frequent.
func randomBig(source *rand.Rand, parts int) *big.Int {
	b := new(big.Int)
	for i := range parts {
		part := source.IntN(api.Base)
		switch source.IntN(4) {
		case 0:
			part = 0
		case 1:
			part = api.Base - 1
		}
		if i == 0 {
			part = max(part, 1)
		}
		b.Mul(b, big.NewInt(api.Base))
		b.Add(b, big.NewInt(int64(part)))
	}
	return b
}

// expect checks that a call returned a number, or ErrLimit if it is too large.
func expect(t *testing.T, call string, a api.Int, e api.Errno, want *big.Int) {
	t.Helper()
	if want.CmpAbs(bound) >= 0 {
		if e != api.ErrLimit || !isZero(a) {
			t.Errorf("%s: %v %d, but it is too large", call, a, e)
		}
		return
	}
	if e != api.OK || !same(a, fromBig(want)) {
		t.Errorf("%s: %v %d, want %v", call, a, e, want)
	}
}

// expectError checks that a call returned an error and 0.
func expectError(t *testing.T, call string, a api.Int, e, want api.Errno) {
	t.Helper()
	if e != want || !isZero(a) {
		t.Errorf("%s: %v %d, want the error %d", call, a, e, want)
	}
}

// must returns the integer of a call that has no error.
func must(t *testing.T) func(api.Int, api.Errno) api.Int {
	return func(a api.Int, e api.Errno) api.Int {
		t.Helper()
		if e != api.OK {
			t.Fatalf("the error %d", e)
		}
		return a
	}
}

func text(a api.Int) string {
	s, e := num.Text(a)
	if e != api.OK {
		return "no integer"
	}
	return s
}

func nines(n int) string { return strings.Repeat("9", n) }
