package num_test

import (
	"fmt"
	"math"
	"math/big"
	"slices"
	"testing"

	"foregone/api"
	"foregone/num"
)

// linesOfBezout returns the three numbers by the lines that the document describes.
func linesOfBezout(a, b *big.Int) [3]*big.Int {
	ahead := [3]*big.Int{a, big.NewInt(1), new(big.Int)}
	last := [3]*big.Int{b, new(big.Int), big.NewInt(1)}
	for last[0].Sign() != 0 {
		q, _ := floor(ahead[0], last[0])
		var next [3]*big.Int
		for i := range next {
			product := new(big.Int).Mul(q, last[i])
			next[i] = product.Sub(ahead[i], product)
		}
		ahead, last = last, next
	}
	if ahead[0].Sign() < 0 {
		for i := range ahead {
			ahead[i] = new(big.Int).Neg(ahead[i])
		}
	}
	return ahead
}

// P1.4

func TestBezout(t *testing.T) {
	for _, w := range [][5]int{
		{240, 46, 2, -9, 47}, {0, 0, 0, 1, 0}, {5, 0, 5, 1, 0}, {-5, 0, 5, -1, 0}, {0, 5, 5, 0, 1}, {0, -5, 5, 0, -1},
		{7, 7, 7, 0, 1}, {-7, 7, 7, 0, 1}, {7, -7, 7, 0, -1}, {3, 5, 1, 2, -1}, {-2, 5, 1, 2, 1}, {1, 1000000000, 1, 1, 0},
	} {
		g, x, y, e := num.Bezout(small(w[0]), small(w[1]))
		if e != api.OK || !same(g, small(w[2])) || !same(x, small(w[3])) || !same(y, small(w[4])) {
			t.Errorf("Bezout(%d, %d): %v %v %v %d", w[0], w[1], g, x, y, e)
		}
	}
	list := samples(20)
	for _, a := range list {
		for _, b := range list {
			want := linesOfBezout(toBig(a), toBig(b))
			g, x, y, e := num.Bezout(a, b)
			if e != api.OK || !same(g, fromBig(want[0])) || !same(x, fromBig(want[1])) || !same(y, fromBig(want[2])) {
				t.Errorf("Bezout(%v, %v): %v %v %v %d", a, b, g, x, y, e)
			}
		}
	}
}

func TestBezoutErrors(t *testing.T) {
	for _, bad := range notIntegers() {
		for _, pair := range [][2]api.Int{{bad, small(1)}, {small(1), bad}, {bad, bad}} {
			g, x, y, e := num.Bezout(pair[0], pair[1])
			if e != api.ErrInt || !isZero(g) || !isZero(x) || !isZero(y) {
				t.Errorf("Bezout(%v): %v %v %v %d", pair, g, x, y, e)
			}
		}
	}
}

func TestRoot(t *testing.T) {
	for n := range 2000 {
		r, e := num.Root(small(n))
		expect(t, fmt.Sprintf("Root of %d", n), r, e, new(big.Int).Sqrt(big.NewInt(int64(n))))
	}
	for _, a := range samples(200) {
		r, e := num.Root(a)
		if a.Neg {
			expectError(t, "Root", r, e, api.ErrArg)
			continue
		}
		expect(t, "Root of "+text(a), r, e, new(big.Int).Sqrt(toBig(a)))
	}
	r, e := num.Root(of("10000000000000000000000000000000000000001"))
	expect(t, "Root", r, e, toBig(of("100000000000000000000")))
	for _, a := range notIntegers() {
		r, e := num.Root(a)
		expectError(t, "Root", r, e, api.ErrInt)
	}
}

func TestCross(t *testing.T) {
	for _, x := range [][5]int{{1, 3, 2, 6, 0}, {1, 2, 1, 3, 1}, {-1, 2, -1, 3, -1}, {0, 5, 0, 7, 0}, {-1, 9, 1, 9, -1}, {7, 1, 6, 1, 1}} {
		if n, e := num.Cross(small(x[0]), small(x[1]), small(x[2]), small(x[3])); e != api.OK || n != x[4] {
			t.Errorf("Cross%v: %d %d", x, n, e)
		}
	}
	most, next := of(nines(360)), of(nines(359)+"8")
	for _, x := range []struct {
		a, b, c, d api.Int
		n          int
	}{{most, next, next, most, 1}, {next, most, most, next, -1}, {most, next, most, next, 0}, {most, small(1), small(1), most, 1}} {
		if n, e := num.Cross(x.a, x.b, x.c, x.d); e != api.OK || n != x.n { // never ErrLimit
			t.Errorf("Cross: %d %d", n, e)
		}
	}
}

func TestCrossErrors(t *testing.T) {
	one := small(1)
	for _, b := range []api.Int{{}, small(-1), of("-" + nines(360))} {
		if n, e := num.Cross(one, b, one, one); e != api.ErrArg || n != 0 {
			t.Errorf("Cross: %d %d", n, e)
		}
		if n, e := num.Cross(small(-1), one, one, b); e != api.ErrArg || n != 0 {
			t.Errorf("Cross: %d %d", n, e)
		}
	}
	for _, bad := range notIntegers() {
		for i := range 4 {
			args := []api.Int{one, {}, one, {}} // ErrInt comes ahead of ErrArg
			args[i] = bad
			if n, e := num.Cross(args[0], args[1], args[2], args[3]); e != api.ErrInt || n != 0 {
				t.Errorf("Cross: %d %d", n, e)
			}
		}
	}
}

func TestChoose(t *testing.T) {
	for n := range 80 {
		for k := -2; k < n+3; k++ {
			want := new(big.Int)
			if k >= 0 && k <= n {
				want.Binomial(int64(n), int64(k))
			}
			r, e := num.Choose(n, k)
			expect(t, fmt.Sprintf("Choose(%d, %d)", n, k), r, e, want)
		}
	}
	for n := 1150; n <= 4000; n += 75 {
		for k := 0; k <= n; k += 1 + k/7 {
			r, e := num.Choose(n, k)
			expect(t, fmt.Sprintf("Choose(%d, %d)", n, k), r, e, new(big.Int).Binomial(int64(n), int64(k)))
		}
	}
	if r, e := num.Choose(40, 20); e != api.OK || text(r) != "137846528820" {
		t.Errorf("Choose: %v %d", r, e)
	}
}

func TestChooseErrors(t *testing.T) {
	for _, x := range [][2]int{{5, 6}, {5, -1}, {0, 1}, {4000, 4001}, {4000, math.MaxInt64}, {4000, math.MinInt64}} {
		if r, e := num.Choose(x[0], x[1]); e != api.OK || !isZero(r) {
			t.Errorf("Choose%v: %v %d", x, r, e)
		}
	}
	for _, x := range [][2]int{{-1, 0}, {4001, 0}, {-1, -1}, {4001, 4002}, {4001, -1}, {math.MaxInt64, 1}, {math.MinInt64, math.MinInt64}} {
		r, e := num.Choose(x[0], x[1])
		expectError(t, fmt.Sprint("Choose", x), r, e, api.ErrArg)
	}
	r, e := num.Choose(4000, 2000)
	expectError(t, "Choose(4000, 2000)", r, e, api.ErrLimit)
	for _, k := range []int{0, 4000} {
		r, e := num.Choose(4000, k)
		expect(t, "Choose", r, e, big.NewInt(1))
	}
}

// P1.9

func TestDivisors(t *testing.T) {
	for a := -40; a <= 40; a++ {
		for b := -40; b <= 40; b++ {
			g, _, _, e := num.Bezout(small(a), small(b))
			n, f := num.ToInt(g)
			if e != api.OK || f != api.OK || n != greatest(a, b) {
				t.Errorf("Bezout(%d, %d): %v %d", a, b, g, e)
			}
			checkDivisor(t, small(a), small(b))
		}
	}
	list := samples(20)
	for _, a := range list {
		for _, b := range list {
			checkDivisor(t, a, b)
		}
	}
}

// greatest returns the greatest common divisor, by trying all.
func greatest(a, b int) int {
	for n := 40; n > 0; n-- {
		if a%n == 0 && b%n == 0 && (a != 0 || b != 0) {
			return n
		}
	}
	return 0
}

func checkDivisor(t *testing.T, a, b api.Int) {
	t.Helper()
	g, x, y, e := num.Bezout(a, b)
	left := new(big.Int).Mul(toBig(a), toBig(x))
	if sum := left.Add(left, new(big.Int).Mul(toBig(b), toBig(y))); e != api.OK || sum.Cmp(toBig(g)) != 0 {
		t.Errorf("Bezout(%v, %v): %v %v %v %d", a, b, g, x, y, e)
	}
	if (num.Sign(g) == 0) != (isZero(a) && isZero(b)) || g.Neg {
		t.Errorf("Bezout(%v, %v): %v", a, b, g)
	}
	for _, n := range []api.Int{a, b} {
		if num.Sign(g) > 0 && !isZero(must(t)(num.Mod(n, g))) {
			t.Errorf("%v does not divide %v", g, n)
		}
	}
	one := big.NewInt(1)
	if toBig(x).CmpAbs(toBig(b)) > 0 && toBig(x).CmpAbs(one) > 0 || toBig(y).CmpAbs(toBig(a)) > 0 && toBig(y).CmpAbs(one) > 0 {
		t.Errorf("Bezout(%v, %v): %v %v are too large", a, b, x, y)
	}
}

// P1.10

func TestRootsAreRoots(t *testing.T) {
	for _, a := range samples(100) {
		if a.Neg {
			continue
		}
		checkRoot(t, a)
		square, e := num.Mul(a, a)
		if e != api.OK {
			continue
		}
		if r := must(t)(num.Root(square)); !same(r, a) {
			t.Errorf("the root of the square of %v: %v", a, r)
		}
		checkRoot(t, square)
		checkRoot(t, must(t)(num.Add(square, a)))
		if num.Sign(a) > 0 {
			checkRoot(t, must(t)(num.Sub(square, small(1))))
		}
	}
}

func checkRoot(t *testing.T, a api.Int) {
	t.Helper()
	r := must(t)(num.Root(a))
	above := must(t)(num.Add(r, small(1)))
	if num.Compare(must(t)(num.Mul(r, r)), a) > 0 {
		t.Errorf("Root(%v): %v is too large", a, r)
	}
	if square, e := num.Mul(above, above); e == api.OK && num.Compare(square, a) <= 0 {
		t.Errorf("Root(%v): %v is too small", a, r)
	}
}

// P1.11

func TestFractions(t *testing.T) {
	var list [][2]api.Int
	parts := []api.Int{small(1), small(2), small(3), small(1000000000), of("123456789123456789"), of(nines(180)), of(nines(360))}
	for _, a := range append([]api.Int{{}, small(-2), of("-" + nines(360))}, parts...) {
		for _, b := range parts {
			list = append(list, [2]api.Int{a, b})
		}
	}
	order := func(x, y [2]api.Int) int {
		n, e := num.Cross(x[0], x[1], y[0], y[1])
		if e != api.OK {
			t.Errorf("Cross(%v, %v): %d", x, y, e)
		}
		return n
	}
	slices.SortFunc(list, order)
	for i, x := range list {
		for j, y := range list {
			n := order(x, y)
			if n != -order(y, x) || i < j && n > 0 || i > j && n < 0 {
				t.Errorf("Cross(%v, %v): %d", x, y, n)
			}
			left := new(big.Rat).SetFrac(toBig(x[0]), toBig(x[1]))
			if n != left.Cmp(new(big.Rat).SetFrac(toBig(y[0]), toBig(y[1]))) {
				t.Errorf("Cross(%v, %v): %d", x, y, n)
			}
			quotients := num.Compare(must(t)(num.Div(x[0], x[1])), must(t)(num.Div(y[0], y[1])))
			if quotients != 0 && quotients != n {
				t.Errorf("Cross(%v, %v): %d, the quotients: %d", x, y, n, quotients)
			}
			checkExtended(t, x, y, n)
		}
	}
}

// checkExtended checks that two fractions compare as they do if the first one is extended.
func checkExtended(t *testing.T, x, y [2]api.Int, want int) {
	t.Helper()
	for _, c := range []api.Int{small(1), small(7), small(1000000000)} {
		a, e := num.Mul(x[0], c)
		b, f := num.Mul(x[1], c)
		if e != api.OK || f != api.OK {
			continue
		}
		if n, e := num.Cross(a, b, y[0], y[1]); e != api.OK || n != want {
			t.Errorf("Cross of %v, extended, and %v: %d %d", x, y, n, e)
		}
	}
}

// P1.12

func TestSmallIntegers(t *testing.T) {
	for a := -50; a <= 50; a++ {
		for b := -50; b <= 50; b++ {
			x, y := num.FromInt(a), num.FromInt(b)
			isInt(t, a+b)(num.Add(x, y))
			isInt(t, a-b)(num.Sub(x, y))
			isInt(t, a*b)(num.Mul(x, y))
			if order := num.Compare(x, y); order < 0 != (a < b) || order > 0 != (a > b) {
				t.Errorf("Compare(%d, %d): %d", a, b, order)
			}
			if b != 0 {
				q, r := a/b, a%b
				if r != 0 && (r < 0) != (b < 0) {
					q, r = q-1, r+b
				}
				isInt(t, q)(num.Div(x, y))
				isInt(t, r)(num.Mod(x, y))
			}
			if b >= 0 && b <= 10 {
				power := 1
				for range b {
					power *= a
				}
				isInt(t, power)(num.Pow(x, y))
			}
		}
		isInt(t, -a)(num.Neg(num.FromInt(a)))
	}
	for _, a := range ints() {
		if a != math.MinInt64 {
			isInt(t, -a)(num.Neg(num.FromInt(a)))
		}
		isInt(t, a)(num.FromInt(a), num.Check(num.FromInt(a)))
		if a >= 0 {
			root, e := num.Root(num.FromInt(a))
			r, f := num.ToInt(root)
			if e != api.OK || f != api.OK || r*r > a || uint64(r+1)*uint64(r+1) <= uint64(a) {
				t.Errorf("Root of %d: %d %d %d", a, r, e, f)
			}
		}
	}
}

func isInt(t *testing.T, want int) func(api.Int, api.Errno) {
	return func(a api.Int, e api.Errno) {
		t.Helper()
		if n, f := num.ToInt(a); e != api.OK || f != api.OK || n != want {
			t.Errorf("%d %d %d, want %d", n, e, f, want)
		}
	}
}

// P1.13

func TestPascal(t *testing.T) {
	for _, n := range []int{1, 2, 3, 10, 50, 200, 1000, 1199, 1200, 2000, 4000} {
		for k := 0; k <= n; k += 1 + n/40 {
			all, e := num.Choose(n, k)
			if other, f := num.Choose(n, n-k); e != f || !same(all, other) {
				t.Errorf("Choose(%d, %d): %v %d, the other way round: %v %d", n, k, all, e, other, f)
			}
			left, f := num.Choose(n-1, k-1)
			right, g := num.Choose(n-1, k)
			if e != api.OK || f != api.OK || g != api.OK {
				continue
			}
			if sum := must(t)(num.Add(left, right)); !same(sum, all) {
				t.Errorf("Choose(%d, %d): %v, want %v", n, k, all, sum)
			}
		}
	}
}

// R2

// TestNewMemory writes over what is returned and passed, and looks whether the other one changes.
func TestNewMemory(t *testing.T) {
	for _, n := range []api.Int{small(1), small(-7), of("123456789012345678901234567890"), of("-123456789012345678901234567890")} {
		for name, f := range binary() {
			for _, b := range []api.Int{{}, small(1), n} {
				a := api.Int{Neg: n.Neg, D: slices.Clone(n.D)}
				c := api.Int{Neg: b.Neg, D: slices.Clone(b.D)}
				first, e := f(a, c)
				kept := slices.Clone(first.D)
				scribble(a, c)
				if e == api.OK && !slices.Equal(kept, first.D) {
					t.Errorf("%s keeps the memory of its arguments", name)
				}
			}
		}
		checkNewMemory(t, n)
	}
}

func scribble(list ...api.Int) {
	for _, a := range list {
		for i := range a.D {
			a.D[i] = 77
		}
	}
}

func checkNewMemory(t *testing.T, n api.Int) {
	t.Helper()
	for _, pair := range [][2]api.Int{{n, {}}, {{}, n}, {n, n}, {n, small(3)}} {
		a := api.Int{Neg: pair[0].Neg, D: slices.Clone(pair[0].D)}
		b := api.Int{Neg: pair[1].Neg, D: slices.Clone(pair[1].D)}
		g, x, y, _ := num.Bezout(a, b)
		minus, _ := num.Neg(a)
		want := []string{text(g), text(x), text(y), text(minus)}
		if !same(a, pair[0]) || !same(b, pair[1]) {
			t.Errorf("%v and %v were modified", pair[0], pair[1])
		}
		scribble(a, b)
		if got := []string{text(g), text(x), text(y), text(minus)}; !slices.Equal(got, want) {
			t.Errorf("Bezout or Neg keeps the memory of %v and %v", pair[0], pair[1])
		}
		scribble(g)
		if got := []string{text(x), text(y)}; !slices.Equal(got, want[1:3]) {
			t.Errorf("the results of Bezout of %v and %v share memory", pair[0], pair[1])
		}
	}
	l := []byte{1, 0, 0, 0, 5}
	a, _ := num.FromBytes(l)
	l[4] = 6
	if !same(a, small(5)) {
		t.Errorf("FromBytes: %v", a)
	}
}
