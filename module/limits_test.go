package module_test

import (
	"fmt"
	"strings"
	"testing"

	"foregone/api"
	"foregone/module"
	"foregone/parse"
)

// definitions returns definitions of numbers: each one has two nodes.
func definitions(name string, count int) string {
	var b strings.Builder
	for i := range count {
		fmt.Fprintf(&b, " %s%d == 1", name, i)
	}
	return b.String()
}

// wantSize tells whether the last one of some modules has a flat module with so many nodes, or is too large if there are none.
func wantSize(t *testing.T, nodes, deep int, texts ...string) {
	t.Helper()
	l := read(t, texts...)
	n, spot, e := module.Flat(l, l[len(l)-1].S)
	if nodes == 0 {
		if e != api.ErrLimit || spot != (api.Spot{}) || !isZero(n) {
			t.Errorf("error %d at %v", e, spot)
		}
		return
	}
	hasNodes, isDeep := parse.Size(n)
	if e != api.OK || hasNodes != nodes || deep > 0 && isDeep != deep || !parse.IsFlat(n) {
		t.Errorf("%d nodes, %d deep: error %d at %v", hasNodes, isDeep, e, spot)
	}
}

// Flat modules of the largest size, and of one node more. P5.2
func TestLargest(t *testing.T) {
	half, other := `K:`+definitions("d", 4999), `L:`+definitions("e", 4999)
	wantSize(t, 20000, 0, half, other, `M: EXTENDS K, L d == -1`)
	wantSize(t, 0, 0, half, other, `M: EXTENDS K, L d == <<1, 1>>`)
	wantSize(t, 20000, 0, half, `M: I == INSTANCE K J == INSTANCE K d == -1`)
	wantSize(t, 0, 0, half, `M: I == INSTANCE K INSTANCE K d == <<1, 1>>`)
	// The parameters of an instance count, in each definition, and ahead of each argument.
	ops := `K: CONSTANT c` + strings.ReplaceAll(definitions("d", 2499), "== 1", "== <<c, 2>>")
	wantSize(t, 1+4+2499*6, 0, ops, `M: I(a) == INSTANCE K WITH c <- <<a>>`)
	wantSize(t, 1+5+2499*8, 0, ops, `M: I(a, b) == INSTANCE K WITH c <- <<a>>`)
	wantSize(t, 0, 0, ops, `M: I(a, b) == INSTANCE K WITH c <- <<a, a, a>> d == <<1, 2>>`)
	// What is left out does not count.
	wantSize(t, 20000, 0, `K:`+definitions("d", 4000)+` VARIABLE v \in {1, 2}`+strings.Repeat(` ASSUME 1 THEOREM 1`, 500), `M: I == INSTANCE K WITH v <- 1`+definitions("e", 5997)+` f == -1 THEOREM <<1, 2, 3, 4>>`)
	// Errors come first.
	wantError(t, api.ErrUnknown, half, other, `M: EXTENDS K, L d == <<§z, 1>>`)
	wantError(t, api.ErrDouble, half, other, `M: EXTENDS K, L J == INSTANCE K d == 1 §d == 2`)
}

// The deepest flat modules, and those that are deeper by one. P5.2
func TestDeepest(t *testing.T) {
	// deep returns an expression of some depth with a name at its deepest place.
	deep := func(n int, name string) string {
		return strings.Repeat("-(", n-1) + name + strings.Repeat(")", n-1)
	}
	wantSize(t, 302, 300, `M: CONSTANT c d == `+deep(298, "c"))
	wantSize(t, 302, 300, `K: CONSTANT c d == `+deep(298, "c"), `M: CONSTANT c I == INSTANCE K`)
	wantSize(t, 304, 300, `K: CONSTANT c d == `+deep(297, "c"), `M: I(a) == INSTANCE K WITH c <- a`)
	wantSize(t, 0, 0, `K: CONSTANT c d == `+deep(298, "c"), `M: I(a) == INSTANCE K WITH c <- a`)
	// A function within a LET.
	wantSize(t, 305, 300, `K: d[n \in 1] == `+deep(296, "n"), `M: I(a) == INSTANCE K`)
	wantSize(t, 0, 0, `K: d[n \in 1] == `+deep(297, "n"), `M: I(a) == INSTANCE K`)
	// A path has fewer levels than what it becomes, or more.
	wantSize(t, 302, 299, `K: e == 1`, `M: I(a) == INSTANCE K d == `+deep(296, "I(2)!e"))
}

// Modules that would have more definitions than can be counted. P5.2
func TestExplosion(t *testing.T) {
	const letters = "ABCDEFGHIJKLMNOPQRSTUVWXYZabcdefghijklmnopqrstuvwxyz"
	for _, kids := range []int{1, 2, 3, 50} {
		texts := []string{`M0: d == 1`}
		for i := 1; i < api.MaxLib; i++ {
			s := fmt.Sprintf("M%d:", i)
			for k := range kids {
				s += fmt.Sprintf(" x%c == INSTANCE M%d", letters[k], i-1)
			}
			texts = append(texts, s)
		}
		// The names of 13 instances and of what they define have 40 bytes.
		if kids == 1 {
			wantSize(t, 3, 0, texts[:14]...)
		} else if kids > 2 {
			wantSize(t, 0, 0, texts[:14]...)
		}
		for _, count := range []int{15, 20, 30} {
			l := append([]string(nil), texts[:count]...)
			l[14] = strings.Replace(l[14], "INSTANCE", "§INSTANCE", 1)
			wantError(t, api.ErrLimit, l...)
			l = append([]string{`X: LOCAL INSTANCE M13`, `Y: EXTENDS X e == 1 §e == 1`}, texts[:14]...)
			l = append(l[2:], l[0], l[1])
			if kids > 1 {
				wantError(t, api.ErrLimit, append(l[:15], `Y: EXTENDS §X`)...)
			}
		}
	}
	// A long name counts, however many there are ahead of it.
	long := `K: A == INSTANCE L B == INSTANCE L C == INSTANCE L F == INSTANCE L ` + strings.Repeat("D", 34) + ` == INSTANCE E`
	lib := []string{`L:` + definitions("d", 6600), `E: e == 1`, long}
	wantError(t, api.ErrLimit, append(lib, `M: abc == INSTANCE K`)...)
	wantError(t, api.ErrLimit, append(lib, `M: abcd == §INSTANCE K`)...)
	wantError(t, api.ErrLimit, append(lib, `M: abcd == INSTANCE TLC LOCAL INSTANCE K LOCAL d == 1`)...)
	wantError(t, api.ErrLimit, append(lib, `MMM: LOCAL INSTANCE K`, `M: EXTENDS MMM`)...)
	wantError(t, api.ErrLimit, append(lib, `MMMM: LOCAL INSTANCE K`, `M: EXTENDS §MMMM`)...)
	wantError(t, api.ErrDouble, append(lib, `M: INSTANCE K §INSTANCE K`)...)
	// Extending has each module once, however many ways there are.
	texts := []string{`A: LOCAL d == 1`}
	for i := 1; i < api.MaxLib; i++ {
		s := fmt.Sprintf("%c: EXTENDS A", letters[i])
		for k := i - 1; k > 0; k-- {
			s += fmt.Sprintf(", %c", letters[k])
		}
		texts = append(texts, s+fmt.Sprintf(" e%d == 1", i))
	}
	wantSize(t, 1+2*30, 0, texts...)
}

// Numbers of arguments that a text does not have. P5.2
func TestHugeNumbers(t *testing.T) {
	l := read(t, `K: CONSTANT f(_) d == f`, `M: g == 1 I == INSTANCE K WITH f <- g`)
	for _, count := range []int{api.MaxTokens, api.MaxTokens + 1, 1 << 40, 1<<63 - 1} {
		l[0].L[0].L[0].N = count
		if n, spot, e := module.Flat(l, "M"); e != api.ErrLimit || spot != (api.Spot{}) || !isZero(n) {
			t.Errorf("%d arguments: error %d at %v", count, e, spot)
		}
		if n, _, e := module.Flat(l, "K"); e != api.OK || !same(n, l[0]) {
			t.Errorf("%d arguments: error %d", count, e)
		}
	}
	l = read(t, `K: RECURSIVE d d == 1`, `M: I(a) == INSTANCE K`, `N: I == INSTANCE K`)
	for _, further := range []int{0, 1} {
		l[0].L[0].L[0].N = 1<<63 - 2 + further
		n, _, e := module.Flat(l, "M")
		if want := []api.Errno{api.OK, api.ErrLimit}[further]; e != want || e == api.OK && n.L[0].L[0].N != 1<<63-1 {
			t.Errorf("an argument more than %d: error %d", l[0].L[0].L[0].N, e)
		}
		if n, _, e := module.Flat(l, "N"); e != api.OK || n.L[0].L[0].N != l[0].L[0].L[0].N {
			t.Errorf("%d arguments: error %d", l[0].L[0].L[0].N, e)
		}
	}
}
