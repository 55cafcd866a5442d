package num_test

import (
	"bytes"
	"math"
	"math/big"
	"slices"
	"strings"
	"testing"

	"foregone/api"
	"foregone/num"
)

// P1.1

func TestCheck(t *testing.T) {
	for _, a := range samples(50) {
		if e := num.Check(a); e != api.OK {
			t.Errorf("Check(%v): %d", a, e)
		}
	}
	full := slices.Repeat([]int{api.Base - 1}, api.MaxParts)
	for _, a := range []api.Int{{}, {D: []int{}}, {D: []int{0, 1}}, {Neg: true, D: full}} {
		if e := num.Check(a); e != api.OK {
			t.Errorf("Check(%v): %d", a, e)
		}
	}
	for _, a := range notIntegers() {
		if e := num.Check(a); e != api.ErrInt {
			t.Errorf("Check(%v): %d", a, e)
		}
	}
}

func TestFromInt(t *testing.T) {
	if a := num.FromInt(-1000000000); !a.Neg || !slices.Equal(a.D, []int{0, 1}) {
		t.Errorf("FromInt: %v", a)
	}
	if a := num.FromInt(0); !isZero(a) {
		t.Errorf("FromInt(0): %v", a)
	}
	for _, n := range ints() {
		if a := num.FromInt(n); !same(a, small(n)) {
			t.Errorf("FromInt(%d): %v", n, a)
		}
	}
}

// ints returns ints of all sizes.
func ints() []int {
	list := []int{0}
	for _, n := range []int{1, 2, 3, 7, 10, 46, 240, 999999999, 1000000000, 1000000001, 3037000499, 3037000500, 999999999999999999, 1000000000000000000, 1 << 62, math.MaxInt64 - 1, math.MaxInt64} {
		list = append(list, n, -n)
	}
	return append(list, math.MinInt64)
}

func TestToInt(t *testing.T) {
	for _, n := range ints() {
		if m, e := num.ToInt(small(n)); e != api.OK || m != n {
			t.Errorf("ToInt of %d: %d %d", n, m, e)
		}
	}
	for _, s := range []string{"9223372036854775808", "-9223372036854775809", "10000000000000000000", "18446744073709551615", "18446744073709551616", "-18446744073709551617", "1" + strings.Repeat("0", 27), "-" + nines(360)} {
		if m, e := num.ToInt(of(s)); e != api.ErrLimit || m != 0 {
			t.Errorf("ToInt of %s: %d %d", s, m, e)
		}
	}
	for _, a := range notIntegers() {
		if m, e := num.ToInt(a); e != api.ErrInt || m != 0 {
			t.Errorf("ToInt(%v): %d %d", a, m, e)
		}
	}
}

func TestRead(t *testing.T) {
	for _, s := range []string{"0", "7", "-7", "10", "-12345678901", "1000000000", "-1000000000000000000", nines(360), "-" + nines(360)} {
		a, e := num.Read(s)
		if e != api.OK || !same(a, of(s)) {
			t.Errorf("Read(%q): %v %d", s, a, e)
		}
	}
	if a, _ := num.Read("-12345678901"); !a.Neg || !slices.Equal(a.D, []int{345678901, 12}) {
		t.Errorf("Read: %v", a)
	}
}

func TestReadErrors(t *testing.T) {
	for _, x := range []struct {
		s string
		e api.Errno
	}{
		{"", api.ErrNumber}, {"-", api.ErrNumber}, {"-0", api.ErrNumber}, {"00", api.ErrNumber}, {"007", api.ErrNumber}, {"-01", api.ErrNumber},
		{"+1", api.ErrNumber}, {"--1", api.ErrNumber}, {" 1", api.ErrNumber}, {"1 ", api.ErrNumber}, {"1\n", api.ErrNumber}, {"1a", api.ErrNumber},
		{"1_000", api.ErrNumber}, {"0x1", api.ErrNumber}, {"1.0", api.ErrNumber}, {"1-", api.ErrNumber}, {"\x00", api.ErrNumber}, {"\u0663", api.ErrNumber},
		{"1/", api.ErrNumber}, {"1:", api.ErrNumber},
		{"1" + strings.Repeat("0", 360), api.ErrLimit},
		{"-1" + strings.Repeat("0", 360), api.ErrLimit},
		{nines(361), api.ErrLimit},
		{nines(361) + "a", api.ErrLimit}, // what comes behind the 361st digit is not looked at
		{"-" + nines(361) + "-", api.ErrLimit},
		{nines(5000), api.ErrLimit},
		{nines(360) + "a", api.ErrNumber},
		{nines(360) + "a" + nines(10), api.ErrNumber},
		{nines(359) + "a", api.ErrNumber},
		{"0" + nines(360), api.ErrNumber},
		{"-0" + nines(360), api.ErrNumber},
		{"0" + nines(5000), api.ErrNumber},
		{"a" + nines(400), api.ErrNumber},
		{"--" + nines(400), api.ErrNumber},
	} {
		a, e := num.Read(x.s)
		expectError(t, "Read("+x.s+")", a, e, x.e)
	}
}

func TestText(t *testing.T) {
	for _, a := range samples(100) {
		if s, e := num.Text(a); e != api.OK || s != toBig(a).String() {
			t.Errorf("Text(%v): %q %d", a, s, e)
		}
	}
	for _, a := range notIntegers() {
		if s, e := num.Text(a); e != api.ErrInt || s != "" {
			t.Errorf("Text(%v): %q %d", a, s, e)
		}
	}
}

func TestBytes(t *testing.T) {
	for _, x := range []struct {
		s string
		b []byte
	}{
		{"0", []byte{0}},
		{"1", []byte{1, 0, 0, 0, 1}},
		{"-1", []byte{129, 0, 0, 0, 1}},
		{"1000000001", []byte{2, 0, 0, 0, 1, 0, 0, 0, 1}},
		{"-2000000000", []byte{130, 0, 0, 0, 2, 0, 0, 0, 0}},
		{"999999999", []byte{1, 0x3b, 0x9a, 0xc9, 0xff}},
		{"16909060", []byte{1, 1, 2, 3, 4}},
	} {
		if b, e := num.Bytes(of(x.s)); e != api.OK || !bytes.Equal(b, x.b) {
			t.Errorf("Bytes of %s: %v %d", x.s, b, e)
		}
		if a, e := num.FromBytes(x.b); e != api.OK || !same(a, of(x.s)) {
			t.Errorf("FromBytes(%v): %v %d", x.b, a, e)
		}
	}
	for _, a := range notIntegers() {
		if b, e := num.Bytes(a); e != api.ErrInt || len(b) != 0 {
			t.Errorf("Bytes(%v): %v %d", a, b, e)
		}
	}
}

func TestFromBytesErrors(t *testing.T) {
	tooMany := append([]byte{api.MaxParts + 1}, bytes.Repeat([]byte{0, 0, 0, 1}, api.MaxParts+1)...)
	most := append([]byte{127}, bytes.Repeat([]byte{0, 0, 0, 1}, 127)...)
	for _, b := range [][]byte{
		nil, {}, {128}, {1}, {0, 0}, {128, 0, 0, 0, 1}, {255},
		{1, 0, 0, 0}, {1, 0, 0, 0, 1, 0}, {2, 0, 0, 0, 1}, {1, 0, 0, 0, 0}, {129, 0, 0, 0, 0},
		{2, 0, 0, 0, 0, 0, 0, 0, 1}, {1, 0x3b, 0x9a, 0xca, 0}, {1, 255, 255, 255, 255}, {2, 0, 0, 0, 1, 0x3b, 0x9a, 0xca, 0},
		tooMany, most,
	} {
		a, e := num.FromBytes(b)
		expectError(t, "FromBytes", a, e, api.ErrNumber)
	}
	full := append([]byte{128 + api.MaxParts}, bytes.Repeat([]byte{0x3b, 0x9a, 0xc9, 0xff}, api.MaxParts)...)
	if a, e := num.FromBytes(full); e != api.OK || !same(a, of("-"+nines(360))) {
		t.Errorf("FromBytes: %v %d", a, e)
	}
}

// P1.2

// byData compares by the data alone, as the document says it.
func byData(a, b api.Int) int {
	if a.Neg != b.Neg {
		if a.Neg {
			return -1
		}
		return 1
	}
	less := len(a.D) - len(b.D)
	for i := len(a.D) - 1; i >= 0 && less == 0; i-- {
		switch {
		case a.D[i] < b.D[i]:
			less = -1
		case a.D[i] > b.D[i]:
			less = 1
		}
	}
	if a.Neg {
		less = -less
	}
	return max(-1, min(1, less))
}

func TestCompare(t *testing.T) {
	list := samples(20)
	for _, a := range list {
		for _, b := range list {
			if n := num.Compare(a, b); n != toBig(a).Cmp(toBig(b)) {
				t.Errorf("Compare(%v, %v): %d", a, b, n)
			}
		}
	}
}

func TestCompareWhatIsNoInteger(t *testing.T) {
	list := append(notIntegers(), api.Int{}, small(1), small(-1), small(api.Base), api.Int{D: []int{0, 0}}, api.Int{Neg: true, D: []int{-5}})
	for _, a := range list {
		for _, b := range list {
			if n := num.Compare(a, b); n != byData(a, b) {
				t.Errorf("Compare(%v, %v): %d", a, b, n)
			}
		}
	}
	if n := num.Compare(api.Int{Neg: true}, api.Int{}); n != -1 {
		t.Errorf("Compare: %d", n)
	}
	if n := num.Compare(api.Int{D: []int{math.MinInt64}}, api.Int{D: []int{math.MaxInt64}}); n != -1 {
		t.Errorf("Compare: %d", n)
	}
}

func TestSign(t *testing.T) {
	for _, a := range samples(20) {
		if n := num.Sign(a); n != toBig(a).Sign() {
			t.Errorf("Sign(%v): %d", a, n)
		}
	}
	for _, x := range []struct {
		a api.Int
		n int
	}{{api.Int{Neg: true}, 0}, {api.Int{D: []int{0}}, 1}, {api.Int{D: []int{-1}}, 1}, {api.Int{Neg: true, D: []int{0}}, -1}} {
		if n := num.Sign(x.a); n != x.n {
			t.Errorf("Sign(%v): %d", x.a, n)
		}
	}
}

func TestDigits(t *testing.T) {
	for _, a := range samples(50) {
		want := len(new(big.Int).Abs(toBig(a)).String())
		if n, e := num.Digits(a); e != api.OK || n != want {
			t.Errorf("Digits(%v): %d %d", a, n, e)
		}
	}
	for _, x := range []struct{ s, n int }{{0, 1}, {9, 1}, {-10, 2}, {999999999, 9}, {-1000000000, 10}} {
		if n, e := num.Digits(small(x.s)); e != api.OK || n != x.n {
			t.Errorf("Digits of %d: %d %d", x.s, n, e)
		}
	}
	if n, e := num.Digits(of("-" + nines(360))); e != api.OK || n != 360 {
		t.Errorf("Digits: %d %d", n, e)
	}
	for _, a := range notIntegers() {
		if n, e := num.Digits(a); e != api.ErrInt || n != 0 {
			t.Errorf("Digits(%v): %d %d", a, n, e)
		}
	}
}

// P1.6

func TestTextsAndBytesAreReadBack(t *testing.T) {
	for _, a := range samples(200) {
		s, e := num.Text(a)
		if b, f := num.Read(s); e != api.OK || f != api.OK || !same(a, b) {
			t.Errorf("Read of Text of %v: %v %d %d", a, b, e, f)
		}
		l, e := num.Bytes(a)
		if b, f := num.FromBytes(l); e != api.OK || f != api.OK || !same(a, b) {
			t.Errorf("FromBytes of Bytes of %v: %v %d %d", a, b, e, f)
		}
	}
}

func TestWhatIsReadIsWrittenBack(t *testing.T) {
	for _, s := range []string{"0", "1", "-1", "10", "100000000", "1000000000", "-1000000001000000000", "120000000000000000003", nines(360)} {
		a, e := num.Read(s)
		if back := text(a); e != api.OK || back != s {
			t.Errorf("Text of Read of %s: %s %d", s, back, e)
		}
	}
	for n := range 1 << 16 { // all texts of two bytes, and all beginnings of bytes
		s := string([]byte{byte(n >> 8), byte(n)})
		if a, e := num.Read(s); e == api.OK && text(a) != s {
			t.Errorf("Text of Read of %q: %s", s, text(a))
		}
		l := []byte{byte(n >> 8), 0, 0, 0, byte(n), 0, 0, 0, 9}
		for _, b := range [][]byte{l, l[:5], l[:1]} {
			a, e := num.FromBytes(b)
			if back, f := num.Bytes(a); e == api.OK && (f != api.OK || !bytes.Equal(back, b)) {
				t.Errorf("Bytes of FromBytes of %v: %v %d", b, back, f)
			}
		}
	}
}
