package num_test

import (
	"fmt"
	"math/big"
	"math/rand/v2"
	"slices"
	"strings"
	"testing"

	"foregone/api"
	"foregone/num"
)

// floor returns the quotient, rounded down, and the remainder.
func floor(a, b *big.Int) (*big.Int, *big.Int) {
	q, r := new(big.Int).QuoRem(a, b, new(big.Int))
	if r.Sign() != 0 && r.Sign() != b.Sign() {
		q.Sub(q, big.NewInt(1))
		r.Add(r, b)
	}
	return q, r
}

// checkPair compares all functions of two integers, but Pow, with math/big.
func checkPair(t *testing.T, a, b api.Int) {
	t.Helper()
	x, y := toBig(a), toBig(b)
	r, e := num.Add(a, b)
	expect(t, fmt.Sprintf("Add(%v, %v)", x, y), r, e, new(big.Int).Add(x, y))
	r, e = num.Sub(a, b)
	expect(t, fmt.Sprintf("Sub(%v, %v)", x, y), r, e, new(big.Int).Sub(x, y))
	r, e = num.Mul(a, b)
	expect(t, fmt.Sprintf("Mul(%v, %v)", x, y), r, e, new(big.Int).Mul(x, y))
	if y.Sign() == 0 {
		r, e = num.Div(a, b)
		expectError(t, fmt.Sprintf("Div(%v, 0)", x), r, e, api.ErrZero)
		r, e = num.Mod(a, b)
		expectError(t, fmt.Sprintf("Mod(%v, 0)", x), r, e, api.ErrZero)
		return
	}
	quotient, rest := floor(x, y)
	r, e = num.Div(a, b)
	expect(t, fmt.Sprintf("Div(%v, %v)", x, y), r, e, quotient)
	r, e = num.Mod(a, b)
	expect(t, fmt.Sprintf("Mod(%v, %v)", x, y), r, e, rest)
}

// P1.3

func TestPairs(t *testing.T) {
	list := samples(40)
	for _, a := range list {
		for _, b := range list {
			checkPair(t, a, b)
		}
	}
}

func TestDivisionOfRandomNumbers(t *testing.T) {
	source := rand.New(rand.NewPCG(3, 4))
	for range 20000 {
		b := randomBig(source, 1+source.IntN(6))
		a := randomBig(source, 1+source.IntN(12))
		if source.IntN(3) == 0 { // close to a multiple
			a = new(big.Int).Mul(b, randomBig(source, 1+source.IntN(6)))
			a.Add(a, big.NewInt(int64(source.IntN(3)-1)))
		}
		checkPair(t, fromBig(a), fromBig(b))
	}
}

// TestDivisionWithWrongGuesses has numbers for which the first guess of a part of the quotient is too large, by one or more.
func TestDivisionWithWrongGuesses(t *testing.T) {
	const half, top = api.Base / 2, api.Base - 1
	parts := []int{0, 1, half - 1, half, half + 1, top - 1, top}
	var list []api.Int
	for _, p := range parts {
		for _, q := range parts {
			for _, r := range []int{1, half, half - 1, top} {
				list = append(list, api.Int{D: []int{p, q, r}})
			}
		}
	}
	for i, a := range list {
		for _, b := range list {
			x := new(big.Int).Mul(toBig(a), toBig(list[len(list)-1-i]))
			checkPair(t, fromBig(x), b)
			checkPair(t, fromBig(x.Sub(x, big.NewInt(1))), b)
		}
	}
}

func TestNeg(t *testing.T) {
	for _, a := range samples(20) {
		r, e := num.Neg(a)
		expect(t, fmt.Sprintf("Neg(%v)", a), r, e, new(big.Int).Neg(toBig(a)))
	}
	if a, e := num.Neg(api.Int{}); e != api.OK || !isZero(a) {
		t.Errorf("Neg(0): %v %d", a, e)
	}
	for _, a := range notIntegers() {
		r, e := num.Neg(a)
		expectError(t, "Neg", r, e, api.ErrInt)
	}
}

func TestDivAndModOfEitherSign(t *testing.T) {
	for _, x := range [][4]int{
		{-7, 2, -4, 1}, {7, -2, -4, -1}, {-7, -2, 3, -1}, {7, 2, 3, 1},
		{-8, 2, -4, 0}, {8, -2, -4, 0}, {-8, -2, 4, 0}, {0, 5, 0, 0}, {0, -5, 0, 0},
		{1, 5, 0, 1}, {-1, 5, -1, 4}, {1, -5, -1, -4}, {-1, -5, 0, -1},
		{-1, 1000000000, -1, 999999999}, {1, -1000000000, -1, -999999999}, {-1000000000000000001, 1000000000, -1000000001, 999999999},
	} {
		q, e := num.Div(small(x[0]), small(x[1]))
		r, f := num.Mod(small(x[0]), small(x[1]))
		if e != api.OK || f != api.OK || !same(q, small(x[2])) || !same(r, small(x[3])) {
			t.Errorf("%v: %v %v %d %d", x, q, r, e, f)
		}
	}
}

func TestLimits(t *testing.T) {
	most, one := of(nines(360)), small(1)
	low := of("-" + nines(360))
	half := of("1" + strings.Repeat("0", 180))
	r, e := num.Add(most, one)
	expectError(t, "Add", r, e, api.ErrLimit)
	r, e = num.Sub(low, one)
	expectError(t, "Sub", r, e, api.ErrLimit)
	r, e = num.Mul(half, half)
	expectError(t, "Mul", r, e, api.ErrLimit)
	r, e = num.Mul(half, of("-"+nines(180)))
	expect(t, "Mul", r, e, toBig(of("-"+nines(180)+strings.Repeat("0", 180))))
	r, e = num.Add(most, low)
	expect(t, "Add", r, e, new(big.Int))
	r, e = num.Div(low, small(-1))
	expect(t, "Div", r, e, toBig(most))
	r, e = num.Div(low, one)
	expect(t, "Div", r, e, toBig(low))
}

// binary returns the functions of two integers by their names.
func binary() map[string]func(a, b api.Int) (api.Int, api.Errno) {
	return map[string]func(a, b api.Int) (api.Int, api.Errno){
		"Add": num.Add, "Sub": num.Sub, "Mul": num.Mul, "Div": num.Div, "Mod": num.Mod, "Pow": num.Pow,
	}
}

func TestErrorsOfPairs(t *testing.T) {
	for name, f := range binary() {
		for _, bad := range notIntegers() {
			for _, good := range []api.Int{{}, small(5), small(-5), of(nines(360))} {
				r, e := f(bad, good)
				expectError(t, name, r, e, api.ErrInt)
				r, e = f(good, bad)
				expectError(t, name, r, e, api.ErrInt)
			}
			r, e := f(bad, bad)
			expectError(t, name, r, e, api.ErrInt)
		}
	}
	r, e := num.Pow(of(nines(360)), small(-1)) // ErrArg comes ahead of ErrLimit, and is no matter of the base
	expectError(t, "Pow", r, e, api.ErrArg)
	for _, n := range []int{0, 1, -1, 2} {
		r, e = num.Pow(small(n), small(-1))
		expectError(t, "Pow", r, e, api.ErrArg)
		r, e = num.Pow(small(n), of("-"+nines(360)))
		expectError(t, "Pow", r, e, api.ErrArg)
	}
}

func TestPow(t *testing.T) {
	for base := -12; base <= 12; base++ {
		for n := range 60 {
			r, e := num.Pow(small(base), small(n))
			expect(t, fmt.Sprintf("Pow(%d, %d)", base, n), r, e, new(big.Int).Exp(big.NewInt(int64(base)), big.NewInt(int64(n)), nil))
		}
	}
	if r, e := num.Pow(small(2), small(100)); e != api.OK || text(r) != "1267650600228229401496703205376" {
		t.Errorf("Pow: %v %d", r, e)
	}
	for _, a := range samples(20) {
		for n := range 7 {
			r, e := num.Pow(a, small(n))
			expect(t, fmt.Sprintf("Pow(%v, %d)", a, n), r, e, new(big.Int).Exp(toBig(a), big.NewInt(int64(n)), nil))
		}
	}
}

func TestPowAtTheLimit(t *testing.T) {
	for _, base := range []int{2, -2, 3, -3, 5, 7, 10, -10, 11, 1000, 999999999, 1000000000, -1000000001} {
		b := big.NewInt(int64(base))
		n := 0
		for p := big.NewInt(1); p.CmpAbs(bound) < 0; n++ {
			p.Mul(p, b)
		}
		for m := max(0, n-70); m < n+140; m++ {
			r, e := num.Pow(small(base), small(m))
			expect(t, fmt.Sprintf("Pow(%d, %d)", base, m), r, e, new(big.Int).Exp(b, big.NewInt(int64(m)), nil))
		}
		for _, m := range []api.Int{small(999999999), small(1000000000), small(1 << 62), of(nines(360)), of("1" + strings.Repeat("0", 359))} {
			r, e := num.Pow(small(base), m)
			expectError(t, "Pow", r, e, api.ErrLimit)
		}
	}
}

func TestPowersOfUnits(t *testing.T) {
	even, odd := of("1"+strings.Repeat("0", 359)), of(nines(360))
	for _, x := range []struct {
		base, want int
		n          api.Int
	}{
		{0, 1, small(0)}, {0, 0, small(1)}, {0, 0, even}, {0, 0, odd},
		{1, 1, small(0)}, {1, 1, small(1)}, {1, 1, even}, {1, 1, odd},
		{-1, 1, small(0)}, {-1, -1, small(1)}, {-1, 1, small(2)}, {-1, 1, even}, {-1, -1, odd},
		{-1, 1, small(1000000000)}, {-1, -1, small(1000000001)},
	} {
		r, e := num.Pow(small(x.base), x.n)
		expect(t, "Pow", r, e, big.NewInt(int64(x.want)))
	}
}

// P1.5

func TestRing(t *testing.T) {
	list := samples(6)
	zero, one := api.Int{}, small(1)
	for _, a := range list {
		for _, x := range []struct {
			f    func(a, b api.Int) (api.Int, api.Errno)
			b    api.Int
			want api.Int
		}{{num.Add, zero, a}, {num.Sub, zero, a}, {num.Mul, one, a}, {num.Mul, zero, zero}, {num.Sub, a, zero}, {num.Div, one, a}} {
			if r := must(t)(x.f(a, x.b)); !same(r, x.want) {
				t.Errorf("%v: %v", a, r)
			}
		}
		for _, b := range list {
			sameResult(t, "a + b = b + a", chain(num.Add, a, b), chain(num.Add, b, a))
			sameResult(t, "a * b = b * a", chain(num.Mul, a, b), chain(num.Mul, b, a))
			sameResult(t, "(a + b) - b = a", then(num.Sub, chain(num.Add, a, b), b), result{a, api.OK})
			checkDivision(t, a, b)
			for _, c := range list {
				sameResult(t, "sums", chain(num.Add, a, b, c), chain(num.Add, b, c, a))
				sameResult(t, "products", chain(num.Mul, a, b, c), chain(num.Mul, b, c, a))
				left := with(num.Mul, a, chain(num.Add, b, c))
				right := join(num.Add, chain(num.Mul, a, b), chain(num.Mul, a, c))
				sameResult(t, "a * (b + c)", left, right)
			}
		}
	}
}

// result is what a call returned.
type result struct {
	a api.Int
	e api.Errno
}

type function = func(a, b api.Int) (api.Int, api.Errno)

func chain(f function, a api.Int, list ...api.Int) result {
	r := result{a, api.OK}
	for _, b := range list {
		r = then(f, r, b)
	}
	return r
}

func then(f function, r result, b api.Int) result { return join(f, r, result{b, api.OK}) }

func with(f function, a api.Int, r result) result { return join(f, result{a, api.OK}, r) }

func join(f function, r, s result) result {
	if r.e != api.OK || s.e != api.OK {
		return result{e: max(r.e, s.e)}
	}
	a, e := f(r.a, s.a)
	return result{a, e}
}

// sameResult checks that two results are equal, if none of them is an error.
func sameResult(t *testing.T, law string, r, s result) {
	t.Helper()
	if r.e == api.OK && s.e == api.OK && !same(r.a, s.a) {
		t.Errorf("%s: %v and %v", law, r.a, s.a)
	}
}

func checkDivision(t *testing.T, a, b api.Int) {
	t.Helper()
	if num.Sign(b) == 0 {
		return
	}
	q, r := must(t)(num.Div(a, b)), must(t)(num.Mod(a, b))
	sameResult(t, "b * (a / b) + a % b = a", then(num.Add, chain(num.Mul, b, q), r), result{a, api.OK})
	if num.Sign(r) == 0 {
		return
	}
	if num.Sign(r) != num.Sign(b) || toBig(r).CmpAbs(toBig(b)) >= 0 {
		t.Errorf("the remainder of %v and %v: %v", a, b, r)
	}
}

// P1.8

func TestPowersMultiply(t *testing.T) {
	bases := []api.Int{{}, small(1), small(-1), small(2), small(-3), small(10), small(-1000000000), of("123456789012345678901234567890")}
	exponents := []int{0, 1, 2, 3, 5, 8, 13, 40, 300, 1195}
	for _, a := range bases {
		for _, n := range exponents {
			for _, m := range exponents {
				left := chain(num.Pow, a, small(n+m))
				right := join(num.Mul, chain(num.Pow, a, small(n)), chain(num.Pow, a, small(m)))
				sameResult(t, "a ^ (b + c)", left, right)
				if left.e != right.e {
					t.Errorf("%v ^ %d: the errors %d and %d", a, n+m, left.e, right.e)
				}
			}
			for _, b := range bases {
				left := then(num.Pow, chain(num.Mul, a, b), small(n))
				right := join(num.Mul, chain(num.Pow, a, small(n)), chain(num.Pow, b, small(n)))
				sameResult(t, "(a * b) ^ c", left, right)
			}
		}
	}
}

// P1.7

func TestOrder(t *testing.T) {
	list := samples(12)
	sorted := slices.Clone(list)
	slices.SortFunc(sorted, num.Compare)
	for i, a := range sorted {
		for j, b := range sorted {
			n := num.Compare(a, b)
			if n != -num.Compare(b, a) || i < j && n > 0 || i > j && n < 0 || (n == 0) != same(a, b) {
				t.Errorf("Compare(%v, %v): %d", a, b, n)
			}
			if d, e := num.Sub(a, b); e == api.OK && num.Sign(d) != n {
				t.Errorf("Sub(%v, %v): %v, Compare: %d", a, b, d, n)
			}
			for _, c := range list {
				sameOrder(t, n, chain(num.Add, a, c), chain(num.Add, b, c))
				if num.Sign(c) > 0 {
					sameOrder(t, n, chain(num.Mul, a, c), chain(num.Mul, b, c))
				}
			}
		}
	}
}

// sameOrder checks that two results are in an order, if none of them is an error.
func sameOrder(t *testing.T, want int, r, s result) {
	t.Helper()
	if r.e == api.OK && s.e == api.OK && num.Compare(r.a, s.a) != want {
		t.Errorf("Compare(%v, %v) is not %d", r.a, s.a, want)
	}
}
