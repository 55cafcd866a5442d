package module_test

import (
	"fmt"
	"slices"
	"strings"
	"testing"

	"foregone/api"
	"foregone/module"
)

// wantAll compares the errors of all functions with modules.
func wantAll(t *testing.T, want, ordered api.Errno, l []api.Node, root string) {
	t.Helper()
	if names, e := module.Order(l); e != ordered || e != api.OK && names != nil {
		t.Errorf("Order: %v, %d; want %d", names, e, ordered)
	}
	if n, spot, e := module.Flat(l, root); e != want || spot != (api.Spot{}) || !isZero(n) {
		t.Errorf("Flat: %s, %v, %d; want %d", shown(n), spot, e, want)
	}
	if x, e := module.Exports(l, root); e != want || x != nil {
		t.Errorf("Exports: %v, %d; want %d", x, e, want)
	}
	if x, e := module.Duties(l, root); e != want || x != nil {
		t.Errorf("Duties: %v, %d; want %d", x, e, want)
	}
	if spot, s, e := module.Origin(l, root, "d"); e != want || spot != (api.Spot{}) || s != "" {
		t.Errorf("Origin: %v, %q, %d; want %d", spot, s, e, want)
	}
}

// What are no modules, or do not fit together. P5.1, P5.2, P5.3, P5.4
func TestNoModules(t *testing.T) {
	wantAll(t, api.ErrModule, api.OK, nil, "M")
	wantAll(t, api.ErrModule, api.OK, read(t, `M: d == 1`), "N")
	wantAll(t, api.ErrModule, api.OK, read(t, `M: EXTENDS Naturals`), "Naturals")
	wantAll(t, api.ErrModule, api.OK, read(t, `M: d == 1`), "")
	for _, s := range []string{`M: EXTENDS N`, `M: INSTANCE N`, `M: I == INSTANCE N WITH c <- 1`, `M: EXTENDS TLC, Reals`} {
		wantAll(t, api.ErrModule, api.ErrModule, read(t, s), "M")
		wantAll(t, api.ErrModule, api.ErrModule, read(t, `A: d == 1`, s), "A")
	}
	for _, n := range []api.Node{{}, {Kind: api.NdModule}, {Kind: api.NdName, S: "M"}, {Kind: api.NdModule, S: "M", N: 1},
		{Kind: api.NdModule, S: "M", L: []api.Node{{Kind: api.NdNumber}}}, {Kind: api.NdModule, S: "M", L: make([]api.Node, 1)}} {
		wantAll(t, api.ErrModule, api.ErrModule, []api.Node{n}, "M")
		wantAll(t, api.ErrModule, api.ErrModule, append(read(t, `A: d == 1`, `A: d == 1`), n), "A")
	}
	wantAll(t, api.ErrDouble, api.ErrDouble, read(t, `M: d == 1`, `A: EXTENDS N`, `M: d == 1`), "X")
	wantAll(t, api.ErrModule, api.ErrModule, read(t, `M: EXTENDS M`, `A: EXTENDS N`), "M")
	for _, l := range [][]string{{`M: EXTENDS M`}, {`M: INSTANCE M`}, {`M: I == INSTANCE M`}, {`M: EXTENDS N`, `N: INSTANCE A`, `A: I(a) == INSTANCE M`},
		{`M: d == 1`, `N: EXTENDS A`, `A: EXTENDS N`}, {`M: EXTENDS Naturals`, `Naturals: EXTENDS M`}} {
		wantAll(t, api.ErrCycle, api.ErrCycle, read(t, l...), "M")
		wantAll(t, api.ErrCycle, api.ErrCycle, read(t, l...), "X")
	}
	var l []string
	for i := range api.MaxLib {
		l = append(l, fmt.Sprintf("M%d: d == %d", i, i))
	}
	wantAll(t, api.ErrModule, api.ErrModule, read(t, append(l, `M: d == 1`)...), "M")
	wantAll(t, api.ErrModule, api.ErrModule, read(t, append(l, `M1: d == 1`)...), "M1")
	wantFlat(t, `M29: d == 29`, l...)
}

// Names that are declared twice. P5.2
func TestDouble(t *testing.T) {
	const c = `C: CONSTANT c LOCAL k == c`
	wantError(t, api.ErrDouble, `M: CONSTANT c, §c(_)`)
	wantError(t, api.ErrDouble, `M: CONSTANT c VARIABLE v, §c \in d`)
	wantError(t, api.ErrDouble, `M: CONSTANT c §c == d`)
	wantError(t, api.ErrDouble, `M: CONSTANT c §LOCAL c == d`)
	wantError(t, api.ErrDouble, `M: c == 1 §c[n \in d] == d`)
	wantError(t, api.ErrDouble, `M: a // b == 1 §p // q == d`)
	wantError(t, api.ErrDouble, `K: CONSTANT c`, `M: LOCAL c == 1 c == §INSTANCE K WITH d <- d`)
	wantError(t, api.ErrDouble, `K: d == 1`, `M: I == INSTANCE K I(a) == §INSTANCE K`)
	wantError(t, api.ErrDouble, `K: d == 1`, `M: I == INSTANCE K §I == 1`)
	wantError(t, api.ErrDouble, `K: d == 1`, `M: d == 1 §INSTANCE K`)
	wantError(t, api.ErrDouble, `K: d == 1`, `M: INSTANCE K §INSTANCE K`)
	wantError(t, api.ErrDouble, `K: d == 1`, `M: EXTENDS K §INSTANCE K`)
	wantError(t, api.ErrDouble, `K: d == 1`, `M: INSTANCE K §d == 1`)
	// By extending: the same name of different units, also the name of an instance.
	wantError(t, api.ErrDouble, `A: CONSTANT c`, `B: CONSTANT c`, `M: EXTENDS A, §B`)
	wantError(t, api.ErrDouble, `K: d == 1`, `A: I == INSTANCE K`, `B: I == 1`, `M: EXTENDS A, §B`)
	wantError(t, api.ErrDouble, `K: d == 1`, `A: I == 1`, `B: I == INSTANCE K`, `M: EXTENDS A, §B`)
	wantError(t, api.ErrDouble, `K: d == 1`, `A: INSTANCE K`, `B: INSTANCE K`, `M: EXTENDS A, §B`)
	wantError(t, api.ErrDouble, `K: d == 1`, `A: I == INSTANCE K`, `M: EXTENDS A CONSTANT §I`)
	wantError(t, api.ErrDouble, c, `M: EXTENDS C VARIABLE §c`)
	wantFlat(t, `M: CONSTANT c C$k == c k == c`, c, `M: EXTENDS C k == c`)
	wantFlat(t, `M: A$I$d == 1 I$d == 1 e == I$d`, `K: d == 1`, `A: LOCAL I == INSTANCE K`, `M: EXTENDS A I == INSTANCE K e == I!d`)
	// Qualified names: what is local in a module that is extended, and what an instance with its name has made.
	wantError(t, api.ErrDouble, `K: k == 1`, c, `P: C == INSTANCE K`, `M: EXTENDS C, §P`)
	wantError(t, api.ErrDouble, `K: k == 1`, c, `M: EXTENDS C C == §INSTANCE K`)
	wantError(t, api.ErrDouble, `K: p // q == 1 x2f2f == 2`, `M: I == §INSTANCE K`)
	// Names of the language.
	for _, s := range strings.Fields("Int Nat Seq Len Head Tail Append SubSeq Cardinality") {
		wantError(t, api.ErrDouble, `M: CONSTANT §`+s)
		wantError(t, api.ErrDouble, `M: VARIABLE v, §`+s)
		wantError(t, api.ErrDouble, `M: §LOCAL `+s+`(n) == n`)
		wantError(t, api.ErrDouble, `M: §`+s+`[n \in 1] == n`)
		wantError(t, api.ErrDouble, `K: d == 1`, `M: `+s+` == §INSTANCE K`)
		wantError(t, api.ErrDouble, `K: d == 1`, `M: I(`+s+`) == §INSTANCE K`)
		wantFlat(t, `M: d(`+s+`) == `+s+` e == `+s+`(`+s+`)`, `M: d(`+s+`) == `+s+` e == `+s+`(`+s+`)`)
	}
}

// Parameters of an instance whose names mean something else within it. P5.2, P5.12
func TestCaught(t *testing.T) {
	for _, units := range []string{`d(a) == 1`, `d(a(_)) == 1`, `a // b == 1`, `d == \A a \in 1 : 1`, `d == \E b, a \in 1 : 1`, `d == CHOOSE <<a, b>> \in 1 : 1`, `d == {a \in 1 : 1}`,
		`d == {1 : a \in 1}`, `d == [a \in 1 |-> 1]`, `F[a \in 1] == 1`, `d == LET a == 1 IN 1`, `d == LET a[n \in 1] == 1 IN 1`, `d == LET e(a) == 1 IN 1`, `d == Len(LAMBDA a : 1)`,
		`ASSUME \A a \in 1 : 1`, `LOCAL d(a) == 1`, `LOCAL F[n \in {a : a \in 1}] == n`, `d(b) == LET e == LET a == 1 IN 1 IN 1`, `EXTENDS E`, `I == INSTANCE E`, `I(a) == INSTANCE F`} {
		wantError(t, api.ErrDouble, `E: e(a) == 1`, `F: e == 1`, `K: `+units, `M: I(a) == §INSTANCE K`)
		flatOf(t, `E: e(a) == 1`, `F: e == 1`, `K: `+units, `M: I(c) == INSTANCE K`)
	}
	for _, units := range []string{`a == 1`, `LOCAL a == 1`, `a[n \in 1] == n`, `CONSTANT d`, `RECURSIVE a`, `VARIABLE d \in {a : a \in 1}`, `THEOREM \A a \in 1 : 1`, `EXTENDS E`, `VARIABLE v I == INSTANCE E`, `I == INSTANCE F`, `I(a) == INSTANCE G`} {
		flatOf(t, `E: ASSUME 1 VARIABLE v \in {a : a \in 1}`, `F: ASSUME \A a \in 1 : 1`, `G: ASSUME 1`, `K: `+units, `M: CONSTANT d VARIABLE v I(a) == INSTANCE K`)
	}
	// What replaces a parameter is a definition, too.
	for _, arg := range []string{`\A a \in 1 : 1`, `LAMBDA a : 1`} {
		wantError(t, api.ErrDouble, `E: CONSTANT c(_)`, `K: I == INSTANCE E WITH c <- `+arg, `M: I(a) == §INSTANCE K`)
	}
	wantError(t, api.ErrDouble, `E: CONSTANT c(_)`, `K: I == INSTANCE E WITH c <- Len`, `M: I(x1) == §INSTANCE K`)
	wantError(t, api.ErrDouble, `E: CONSTANT c(_)`, `K: I(a) == INSTANCE E WITH c <- Len`, `M: I(a) == §INSTANCE K`)
	wantError(t, api.ErrDouble, `K: CONSTANT o(_) I(x1) == INSTANCE TLC`, `L: J == INSTANCE K WITH o <- Len`, `M: I(x1) == §INSTANCE L`)
	// A function of an instance with parameters is within a LET there.
	wantError(t, api.ErrDouble, `E: F[n \in 1] == n`, `K: I(a) == INSTANCE E`, `M: I(F) == §INSTANCE K`)
	flatOf(t, `E: F[n \in 1] == n`, `K: I == INSTANCE E`, `M: I(F) == INSTANCE K`)
	// A parameter that is not replaced: it has to be there, and to be no parameter of the instance.
	wantError(t, api.ErrDouble, `K: CONSTANT a`, `M: CONSTANT a I(a) == §INSTANCE K`)
	wantError(t, api.ErrUnknown, `K: CONSTANT a`, `M: I(a) == §INSTANCE K`)
	wantFlat(t, `M: CONSTANT a I$a(a) == a`, `K: CONSTANT a`, `M: CONSTANT a I(a) == INSTANCE K WITH a <- a`)
}

// What an NdSubst replaces, and what it does not. P5.2
func TestWrongSubstitution(t *testing.T) {
	const k = `K: CONSTANTS c, f(_), g(_, _) VARIABLE v d == c p // q == p J == INSTANCE E`
	for _, s := range []string{`d <- z`, `w <- z`, `// <- z`, `J <- z`, `e <- z`, `Len <- z`, `c <- +`, `f <- +`, `v <- +`, `f <- //`} {
		wantError(t, api.ErrSubst, `E: e == 1`, k, `M: I == INSTANCE K WITH §`+s)
		wantError(t, api.ErrSubst, `E: e == 1`, k, `M: I == INSTANCE K WITH g <- 1, §`+s)
	}
	wantError(t, api.ErrSubst, `E: e == 1`, k, `M: I == INSTANCE K WITH g <- 1, §g <- z`)
	wantError(t, api.ErrUnknown, `E: e == 1`, k, `M: I == INSTANCE K WITH g <- §z, g <- y`)
	wantError(t, api.ErrUnknown, `E: e == 1`, k, `M: I == INSTANCE K WITH g <- LAMBDA m, n : m + §z`)
	wantError(t, api.ErrUnknown, `E: e == 1`, k, `M: I == INSTANCE K WITH g <- §//`)
	wantError(t, api.ErrUnknown, `E: e == 1`, k, `M: I == INSTANCE K WITH g <- §I!d`)
	wantError(t, api.ErrUnknown, `E: e == 1`, k, `M: I(a) == INSTANCE K WITH c <- (a), f <- (§c)`)
	wantError(t, api.ErrUnknown, `E: e == 1`, `K: CONSTANT c`, `M: c == INSTANCE E I == §INSTANCE K`)
	// Parameters that are extended; those that are not replaced, with another number of arguments.
	wantFlat(t, `M: I$c == 1 I$d == I$c`, `C: CONSTANT c`, `K: EXTENDS C d == c`, `M: I == INSTANCE K WITH c <- 1`)
	wantError(t, api.ErrUnknown, `C: CONSTANT c`, `K: EXTENDS C d == c`, `M: I == §INSTANCE K c == 1`)
	for _, units := range []string{`f(m, n) == 1`, `f == 1`, `CONSTANT f`, `VARIABLE f`, `CONSTANT f(_, _)`, `f[n \in 1] == n`, `f(a) == INSTANCE E`, `RECURSIVE f(_, _)`, `RECURSIVE f`, `INSTANCE F`, `EXTENDS G`, `d == 1`} {
		wantError(t, api.ErrUnknown, `E: e == 1`, `F: f(m, n) == m`, `G: LOCAL f(n) == n`, `K: CONSTANT f(_)`, `M: `+units+` §LOCAL INSTANCE K `+end(units))
	}
	for _, units := range []string{`f(m(_)) == 1`, `CONSTANT f(_)`, `LOCAL f(n) == 1`, `RECURSIVE f(_)`, `INSTANCE E`, `LOCAL INSTANCE E`, `EXTENDS E`} {
		flatOf(t, `E: f(n) == n`, `K: CONSTANT f(_)`, `M: `+units+` LOCAL INSTANCE K `+end(units))
	}
	for _, units := range []string{`f == 1`, `CONSTANT f`, `VARIABLE f`, `f[n \in 1] == n`} {
		flatOf(t, `K: VARIABLE f`, `M: `+units+` LOCAL INSTANCE K`)
		flatOf(t, `K: CONSTANT f`, `M: `+units+` LOCAL INSTANCE K`)
	}
}

// end returns the definition that an NdRecursive wants.
func end(units string) string {
	if _, f, ok := strings.Cut(units, "RECURSIVE "); ok {
		return strings.NewReplacer("_, _", "m, n", "_", "n").Replace(f) + " == 1"
	}
	return ""
}

// Names that mean nothing. P5.2
func TestUnknown(t *testing.T) {
	wantError(t, api.ErrUnknown, `M: d == §e e == 1`)
	wantError(t, api.ErrUnknown, `M: d == §d`)
	wantError(t, api.ErrUnknown, `M: d == §e(z)`)
	wantError(t, api.ErrUnknown, `M: e == 1 d == e(§z)`)
	wantError(t, api.ErrUnknown, `M: VARIABLE v \in §z`)
	wantError(t, api.ErrUnknown, `M: VARIABLE v \in §v`)
	wantFlat(t, `M: VARIABLES v, w \in v`, `M: VARIABLES v, w \in v`)
	wantError(t, api.ErrUnknown, `M: ASSUME §z`)
	wantError(t, api.ErrUnknown, `M: ASSUME a == §z ASSUME y`)
	// Signs: behind the operands.
	wantError(t, api.ErrUnknown, `M: d == §1 // 2`)
	wantError(t, api.ErrUnknown, `M: d == 1 // §z`)
	wantError(t, api.ErrUnknown, `M: d == Len(§//, z)`)
	wantError(t, api.ErrUnknown, `M: p // q == §p // q`)
	// The order of names is that of the text.
	wantError(t, api.ErrUnknown, `M: d == {§y : x \in z}`)
	wantError(t, api.ErrUnknown, `M: d == [x \in §y |-> z]`)
	wantError(t, api.ErrUnknown, `M: d == LET e == §y IN z`)
	wantError(t, api.ErrUnknown, `M: d == \A a \in §y, b \in z : w`)
	wantError(t, api.ErrUnknown, `M: d == §y!z(w)`)
	// Where names are bound: in the body, not in the sets beside it; in definitions of a LET further down.
	wantError(t, api.ErrUnknown, `M: d == \A y \in 1, z \in §y : 1`)
	wantError(t, api.ErrUnknown, `M: d == {1 : y \in 1, z \in §y}`)
	wantError(t, api.ErrUnknown, `M: f[y \in §y] == 1`)
	wantError(t, api.ErrUnknown, `M: d == (CHOOSE y \in 1 : y) + (§y)`)
	wantError(t, api.ErrUnknown, `M: d == LET y == §y IN 1`)
	wantError(t, api.ErrUnknown, `M: d == LET z == §y y == 1 IN 1`)
	wantFlat(t, `M: d == LET y == 1 z == y IN <<y, z>>`, `M: d == LET y == 1 z == y IN <<y, z>>`)
	// What is local elsewhere, and what comes only by an instance with a name.
	wantError(t, api.ErrUnknown, `K: d == 1`, `M: I == INSTANCE K e == §d`)
	wantError(t, api.ErrUnknown, `K: d == 1`, `M: I == INSTANCE K e == §I`)
	wantError(t, api.ErrUnknown, `K: d == 1`, `M: I(a) == INSTANCE K e == §I(1)`)
	wantError(t, api.ErrUnknown, `K: d == 1`, `A: LOCAL INSTANCE K`, `M: EXTENDS A e == §d`)
	wantError(t, api.ErrUnknown, `K: LOCAL p // q == 1`, `M: EXTENDS K e == §2 // 3`)
	// Errors of modules that are used come first, those of modules that are not used do not count.
	wantError(t, api.ErrUnknown, `X: d == y`, `A: d == §z`, `B: EXTENDS A`, `M: EXTENDS B d == w`)
	wantError(t, api.ErrUnknown, `X: d == y`, `A: d == z`, `B: d == §z`, `M: EXTENDS B d == w I == INSTANCE A`)
	wantError(t, api.ErrUnknown, `X: d == y`, `A: d == §z`, `B: d == z`, `M: d == w I == INSTANCE A INSTANCE B`)
	wantFlat(t, `M: d == 1`, `X: d == y`, `M: d == 1`)
}

// Paths that lead nowhere. P5.2
func TestWrongPaths(t *testing.T) {
	lib := []string{`E: e == 1 LOCAL y == 2`, `G: g == 1`, `L: CONSTANT c d == c LOCAL z == c p // q == 1 INSTANCE E`,
		`K: CONSTANT b J(a) == INSTANCE L WITH c <- a LOCAL H == INSTANCE L WITH c <- b LOCAL INSTANCE G`,
		`X: EXTENDS K LOCAL I2 == INSTANCE L WITH c <- 1 I3(a) == INSTANCE L WITH c <- 2`}
	const m = `M: EXTENDS X I(i) == INSTANCE K WITH b <- i w(v) == `
	for e, paths := range map[api.Errno][]string{
		api.ErrUnknown: {`§Z!d`, `§w!d`, `§b!d`, `§v!d`, `§K!J!d`, `I3(1)!§f`, `I3(1)!§c`, `I3(1)!§x2f2f`, `I3(1)!§y`, `I3(1)!§E!e`,
			`I(1)!§J`, `I(1)!§d!d`, `I(1)!J(2)!§Y`, `I(1)!§b`, `I3(§Z)!Z`, `I3(§Z)!z`, `I(1)!J(§Z)!Z`, `I3(1)!d(§Z)`, `I3(Len(+, §Z))!d`},
		api.ErrLocal: {`§I2!d`, `§H!d`, `§I2(Z)!d`, `I3(1)!§z`, `I(1)!§H(Z)!d`, `I(1)!§g`, `I3(1)!§z(Z)`},
		api.ErrPath:  {`§I3!z`, `§I3(Z, 2)!d`, `I(1)!§J!Z`, `I(1)!§J(Z, 2)!d`, `§I!Z!d`},
	} {
		for _, path := range paths {
			wantError(t, e, append(lib[:5:5], m+path)...)
		}
	}
	for _, s := range []string{`I3(1)!d`, `I3(1)!e`, `I(1)!J(2)!d(3)`, `J(1)!d`, `I(1)!J(I3(1)!e)!e(v)`, `I3( +)!d`} {
		flatOf(t, append(lib[:5:5], m+s)...)
	}
	wantFlat(t, `M: I$e == 1 I$y == 2 w == I$e`, lib[0], `M: LOCAL I == INSTANCE E w == I!e`)
	wantError(t, api.ErrUnknown, lib[0], `M: w == §I!e I == INSTANCE E`)
	// A name that is local there, and something else here.
	wantError(t, api.ErrLocal, lib[0], `A: LOCAL I == INSTANCE E`, `M: EXTENDS A CONSTANT I d == §I!e`)
}

// Names that get too long. P5.2
func TestLongNames(t *testing.T) {
	name := func(c string, n int) string { return strings.Repeat(c, n) }
	k := func(n int) string { return `K: LOCAL ` + name("k", n) + ` == 1 d == 1` }
	wantNames(t, []string{"K!" + name("k", 38), "d"}, k(38), `M: EXTENDS K`)
	wantError(t, api.ErrLimit, k(39), `M: EXTENDS §K CONSTANT c, c`)
	wantNames(t, []string{name("I", 38) + "!d"}, `K: d == 1`, `M: `+name("I", 38)+` == INSTANCE K`)
	wantError(t, api.ErrLimit, `K: d == 1`, `M: `+name("I", 39)+` == §INSTANCE K`)
	wantNames(t, []string{name("I", 38) + "!c"}, `K: CONSTANT c`, `M: `+name("I", 38)+` == INSTANCE K WITH c <- 1`)
	wantError(t, api.ErrLimit, `K: CONSTANT c`, `M: `+name("I", 39)+` == §INSTANCE K WITH c <- 1`)
	wantError(t, api.ErrLimit, name("K", 39)+`: CONSTANT c`, `M: §INSTANCE `+name("K", 39)+` WITH c <- 1`)
	wantNames(t, []string{name("I", 34) + "!x2626"}, `K: p && q == 1`, `M: `+name("I", 34)+` == INSTANCE K`)
	wantError(t, api.ErrLimit, `K: p && q == 1`, `M: `+name("I", 35)+` == §INSTANCE K`)
	wantFlat(t, `M: p && q == 1`, `K: p && q == 1`, `M: INSTANCE K`)
	flatOf(t, `K: RECURSIVE `+name("r", 38)+`(_)`, `M: I == INSTANCE K`)
	wantError(t, api.ErrLimit, `K: RECURSIVE `+name("r", 39)+`(_)`, `M: I == §INSTANCE K`)
	// One unit behind the other, the length ahead of the double name; both behind the other errors of the instance.
	wantError(t, api.ErrDouble, `K: d == 1 `+name("e", 39)+` == 1 LOCAL f == 1`, `M: d == 1 §LOCAL INSTANCE K`)
	wantError(t, api.ErrLimit, `K: LOCAL `+name("e", 39)+` == 1 d == 1`, `M: d == 1 §LOCAL INSTANCE K`)
	wantError(t, api.ErrDouble, `K: d == 1 LOCAL `+name("e", 39)+` == 1`, `M: d == 1 §LOCAL INSTANCE K`)
	wantError(t, api.ErrDouble, `K: d(a) == 1`, `M: `+name("I", 39)+`(a) == §INSTANCE K`)
	wantError(t, api.ErrUnknown, `K: CONSTANT c`, `M: `+name("I", 39)+` == INSTANCE K WITH c <- §z`)
	wantError(t, api.ErrLimit, k(39), `A: d == 1`, `M: EXTENDS A, §K`)
}

// wantNames compares the names of definitions of the flat module of the last one of some modules.
func wantNames(t *testing.T, want []string, texts ...string) {
	t.Helper()
	var names []string
	for _, u := range flatOf(t, texts...).L {
		names = append(names, u.S)
	}
	if !slices.Equal(names, want) {
		t.Errorf("%q: %q, want %q", texts, names, want)
	}
}
