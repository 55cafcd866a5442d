package module_test

import (
	"strings"
	"testing"

	"foregone/api"
)

const inc = `N: CONSTANT c VARIABLE x LOCAL k == c + 1 Inc == x' = x + k`

// The chapter's examples. P5.2
func TestExamples(t *testing.T) {
	wantError(t, api.ErrUnknown, inc, `M: EXTENDS N Next == Inc /\ §k`)
	wantFlat(t, `M: CONSTANT c VARIABLE x N$k == c + 1 Inc == x' = x + N$k Next == Inc`, inc, `M: EXTENDS N Next == Inc`)
	wantFlat(t, `M: VARIABLE y I$c == 3 I$x == y I$k == I$c + 1 I$Inc == I$x' = I$x + I$k Next == I$Inc`,
		inc, `M: VARIABLE y I == INSTANCE N WITH c <- 3, x <- y Next == I!Inc`)
	wantFlat(t, `M: VARIABLE y I$c(n) == n I$x(n) == y I$k(n) == I$c(n) + 1 I$Inc(n) == I$x(n)' = I$x(n) + I$k(n) Next == I$Inc(2)`,
		inc, `M: VARIABLE y I(n) == INSTANCE N WITH c <- n, x <- y Next == I(2)!Inc`)
	wantError(t, api.ErrPath, inc, `M: VARIABLE y I(n) == INSTANCE N WITH c <- n, x <- y Next == §I!Inc`)
	wantError(t, api.ErrLocal, inc, `M: VARIABLE y I(n) == INSTANCE N WITH c <- n, x <- y Next == I(2)!§k`)
	wantFlat(t, `M: VARIABLE x N$c == 0 N$k == N$c + 1 Inc == x' = x + N$k`, inc, `M: VARIABLE x INSTANCE N WITH c <- 0`)
	wantError(t, api.ErrUnknown, inc, `M: §INSTANCE N WITH c <- 0`)
	wantError(t, api.ErrDouble, `K: CONSTANT c f(a) == a + c`, `M: I(a) == §INSTANCE K WITH c <- a`)
}

// Extending. P5.2
func TestExtends(t *testing.T) {
	const base = `C: CONSTANT c ASSUME p == c = c RECURSIVE h(_), g(_) LOCAL h(n) == c LOCAL p (+) q == h(p) g(n) == h(n) (+) g(n) THEOREM c`
	const flatBase = `CONSTANT c ASSUME p == c = c RECURSIVE A$C$h(_), g(_) A$C$h(n) == c A$C$x282b29(p, q) == A$C$h(p) g(n) == A$C$x282b29(A$C$h(n), g(n))`
	const a, b = `A: EXTENDS C LOCAL d == g(1) e == d`, `B: EXTENDS TLC, C LOCAL d == g F[n \in d] == d`
	// What comes by several ways is there once, where it came first, and has its name of there.
	wantFlat(t, `M: `+flatBase+` A$d == g(1) e == A$d B$d == g F[n \in B$d] == B$d G == <<e, F, g>>`,
		base, a, b, `M: EXTENDS A, B, C, A G == <<e, F, g>>`)
	wantFlat(t, `M: CONSTANT c ASSUME p == c = c RECURSIVE C$h(_), g(_) C$h(n) == c C$x282b29(p, q) == C$h(p) g(n) == C$x282b29(C$h(n), g(n)) B$d == g F[n \in B$d] == B$d A$d == g(1) e == A$d`,
		base, a, b, `M: EXTENDS C, B, A`)
	// A module of its own may use a name that is local elsewhere.
	wantFlat(t, `M: CONSTANT c VARIABLE x N$k == c + 1 Inc == x' = x + N$k k == Inc`, inc, `M: EXTENDS N LOCAL k == Inc`)
	wantFlat(t, `P: CONSTANT c VARIABLE x M$N$k == c + 1 Inc == x' = x + M$N$k M$k == Inc`, inc, `M: EXTENDS N LOCAL k == Inc`, `P: EXTENDS M`)
	// Standard modules, given and not.
	wantFlat(t, `M: a == Nat`, `M: EXTENDS Naturals, Integers, Sequences, FiniteSets, TLC a == Nat`)
	wantFlat(t, `M: d == 1 a == d`, `Naturals: d == 1`, `M: EXTENDS Naturals, TLC a == d`)
	// What an instance of a module has made comes once, too.
	const i = `A: LOCAL I == INSTANCE N WITH c <- 1, x <- 2 J == INSTANCE N WITH c <- 1, x <- 2 INSTANCE K`
	wantFlat(t, `M: A$I$c == 1 A$I$x == 2 A$I$k == A$I$c + 1 A$I$Inc == A$I$x' = A$I$x + A$I$k J$c == 1 J$x == 2 A$J$k == J$c + 1 J$Inc == J$x' = J$x + A$J$k A$K$z == 1 y == A$K$z u == y + J$Inc`,
		inc, `K: LOCAL z == 1 y == z`, i, `B: EXTENDS A`, `M: EXTENDS A, B u == y + J!Inc`)
}

const ops = `K: CONSTANTS f(_, _), g(_), c VARIABLE v LOCAL F(h(_)) == h(c) d == f(c, v) + g(c) e(n) == F(g)`

// What replaces a parameter: an expression, an NdLambda, the name of an operator, a sign. P5.2
func TestSubstitution(t *testing.T) {
	const rest = ` K$F(h(_)) == h(K$c) d == K$f(K$c, K$v) + K$g(K$c) e(n) == K$F(K$g)`
	wantFlat(t, `M: CONSTANT o(_) K$f(x1, x2) == x1 + x2 K$g(x1) == o(x1) K$c == o(2) K$v == <<1>>`+rest,
		ops, `M: CONSTANT o(_) INSTANCE K WITH f <- +, g <- o, c <- o(2), v <- <<1>>`)
	wantFlat(t, `M: x1 == 1 x1_ == 2 p // q == p K$f(x1__, x2__) == x1__ // x2__ K$g(n) == n + x1 K$c == 0 K$v == 1`+rest,
		ops, `M: x1 == 1 x1_ == 2 p // q == p INSTANCE K WITH f <- //, g <- LAMBDA n : n + x1, c <- 0, v <- 1`)
	wantFlat(t, `M: x2 == 1 K$f(x1_, x2_) == x2(x1_, x2_) K$g(x1) == Len(x1) K$c(y) == y K$v(a, b) == a`+rest,
		ops, `M: x2 == 1 INSTANCE K WITH f <- x2, g <- Len, c <- LAMBDA y : y, v <- LAMBDA a, b : a`)
	// The order is that of the NdSubst, not that of the parameters; one of them is not replaced.
	wantFlat(t, `M: CONSTANT f(_, _) I$v == 4 I$c == 3 I$g(x1) == Len(x1) I$F(h(_)) == h(I$c) I$d == f(I$c, I$v) + I$g(I$c) I$e(n) == I$F(I$g)`,
		ops, `M: CONSTANT f(_, _) I == INSTANCE K WITH v <- 4, c <- 3, g <- Len`)
	// With parameters of the instance, and a path to an operator.
	wantFlat(t, `M: J$d(a, n) == n I$f(x1(_), b, x1_, x2_) == x1(x1_, x2_) I$g(x1(_), b, x1_) == J$d(b, x1_) I$c(x1(_), b) == b I$v(x1(_), b) == x1(b)`+
		` I$F(x1(_), b, h(_)) == h(I$c(x1, b)) I$d(x1(_), b) == I$f(x1, b, I$c(x1, b), I$v(x1, b)) + I$g(x1, b, I$c(x1, b))`+
		` I$e(x1(_), b, n) == I$F(x1, b, I$g(x1, b)) m == I$d(+, 2) + I$e(Len, 1, 3)`,
		ops, `L: d(n) == n`, `M: J(a) == INSTANCE L I(x1(_), b) == INSTANCE K WITH f <- x1, g <- J(b)!d, c <- b, v <- x1(b) m == I(+, 2)!d + I(Len, 1)!e(3)`)
	// A path with arguments behind it is called with further ones; a call is an expression like others.
	wantFlat(t, `M: J$d(n) == n I$g(x1) == J$d(7, x1) L$g == J$d(7)`, `L: d(n) == n`, `K: CONSTANT g(_)`, `O: CONSTANT g`,
		`M: J == INSTANCE L I == INSTANCE K WITH g <- J!d(7) L == INSTANCE O WITH g <- J!d(7)`)
	// What is not replaced can be a definition, also one that is local or comes from elsewhere, or that is still to come.
	wantFlat(t, `M: u == 1 p(a) == a RECURSIVE q(_) I$k == u + p(u) + q(2) q(n) == u`,
		`K: CONSTANTS u, q(_), p(_) k == u + p(u) + q(2)`, `N: u == 1`, `M: EXTENDS N LOCAL p(a) == a RECURSIVE q(_) I == INSTANCE K q(n) == u`)
	wantFlat(t, `P: VARIABLE p M$c == p I$k == M$c + p`, `K: CONSTANTS c, p k == c + p`, `M: VARIABLE p LOCAL c == p I == INSTANCE K`, `P: EXTENDS M`)
}

// Instances of instances, in extended modules, and paths to them. P5.2
func TestPaths(t *testing.T) {
	const l = `L: CONSTANT c d == c e(n) == n + c LOCAL z == c`
	const k = `K: CONSTANT b J(a) == INSTANCE L WITH c <- a + b y == J(b)!e(1)`
	wantFlat(t, `M: I$b(p) == p I$J$c(p, a) == a + I$b(p) I$J$d(p, a) == I$J$c(p, a) I$J$e(p, a, n) == n + I$J$c(p, a) I$J$z(p, a) == I$J$c(p, a) I$y(p) == I$J$e(p, I$b(p), 1)`+
		` r == I$J$e(1, 2, 3) s == I$J$d(r, I$y(r))`,
		l, k, `M: I(p) == INSTANCE K WITH b <- p r == I(1)!J(2)!e(3) s == I(r)!J(I(r)!y)!d`)
	// An instance that comes by extending; one within it; one that is local in its own module.
	wantFlat(t, `M: CONSTANT b J$c(a) == a + b J$d(a) == J$c(a) J$e(a, n) == n + J$c(a) K$J$z(a) == J$c(a) y == J$e(b, 1) A$I$c == 2 A$I$d == A$I$c A$I$e(n) == n + A$I$c A$I$z == A$I$c w == A$I$d r == J$e(1, 2)`,
		l, k, `A: LOCAL I == INSTANCE L WITH c <- 2 w == I!d`, `M: EXTENDS K, A r == J(1)!e(2)`)
	// An instance alone: what it has made can be used by its name, also behind the name of an instance.
	wantFlat(t, `M: I$L$c == 1 I$d == I$L$c I$e(n) == n + I$L$c I$L$z == I$L$c I$v == I$d r == I$e(2) + I$v`,
		l, `K: INSTANCE L WITH c <- 1 v == d`, `M: I == INSTANCE K r == I!e(2) + I!v`)
	// The name of an instance can be used for something else within a definition.
	wantFlat(t, `M: J$c(a) == a J$d(a) == J$c(a) J$e(a, n) == n + J$c(a) J$z(a) == J$c(a) r(J) == J$d(J)`, l, `M: J(a) == INSTANCE L WITH c <- a r(J) == J(J)!d`)
}

// Functions. P5.2
func TestFunctions(t *testing.T) {
	const k = `K: CONSTANT c LOCAL g[n \in c] == n f[m, n \in c, p \in g] == g[m] + c h == f[1, 2, 3]`
	wantFlat(t, `M: I$c == 1 I$g[n \in I$c] == n I$f[m, n \in I$c, p \in I$g] == I$g[m] + I$c I$h == I$f[1, 2, 3]`, k, `M: I == INSTANCE K WITH c <- 1`)
	wantFlat(t, `M: I$c(a) == a I$g(a) == LET g[n \in I$c(a)] == n IN g I$f(a) == LET f[m, n \in I$c(a), p \in I$g(a)] == I$g(a)[m] + I$c(a) IN f I$h(a) == I$f(a)[1, 2, 3]`,
		k, `M: I(a) == INSTANCE K WITH c <- a`)
	// Under the last part of its name; a parameter may have the name of a function.
	wantFlat(t, `M: CONSTANT c J$I$g(f) == LET g[n \in c] == n IN g J$I$f(f) == LET f[m, n \in c, p \in J$I$g(f)] == J$I$g(f)[m] + c IN f J$I$h(f) == J$I$f(f)[1, 2, 3]`,
		k, `L: CONSTANT c I == INSTANCE K`, `M: CONSTANT c J(f) == INSTANCE L`)
	wantError(t, api.ErrDouble, k, `L: I(a) == INSTANCE K WITH c <- a`, `M: J(f) == §INSTANCE L`)
	wantFlat(t, `M: J$I$c(b, a) == a J$I$g(b, a) == LET g[n \in J$I$c(b, a)] == n IN g J$I$f(b, a) == LET f[m, n \in J$I$c(b, a), p \in J$I$g(b, a)] == J$I$g(b, a)[m] + J$I$c(b, a) IN f J$I$h(b, a) == J$I$f(b, a)[1, 2, 3]`,
		k, `L: I(a) == INSTANCE K WITH c <- a`, `M: J(b) == INSTANCE L`)
	// A function's own name is none in its body: it is another one.
	wantError(t, api.ErrUnknown, `M: f[n \in 1] == §f[n]`)
	wantError(t, api.ErrUnknown, `M: d == LET f[n \in 1] == §f[n] IN f`)
	wantFlat(t, `M: I$f == 1 I$d == LET f[n \in I$f] == I$f[n] IN f`, `K: f == 1 d == LET f[n \in f] == f[n] IN f`, `M: I == INSTANCE K`)
}

// Names that are bound within a unit stay. P5.2
func TestBoundNames(t *testing.T) {
	const k = `K: CONSTANTS c, s p ++ q == c
d1(c) == c
d2(c(_)) == c(s)
d3 == \A c \in c : c
d4 == \E x, c \in c, y \in c : c
d5 == CHOOSE c \in c : c
d6 == {c \in c : c}
d7 == {c : c \in c, x \in c}
d8 == [<<c, x>> \in c, y \in c |-> c]
f9[c \in c] == c
d10 == LET c == c d(s) == c + s IN c + d(s)
d11 == LET c[s \in s] == c + s IN c
d12 == s(LAMBDA c : c, c)
d13 == LET p ++ q == p ++ q IN s(++, s ++ s)
d14 == <<s ++ c, s(++)>>
d15 == (\A c \in s : c) /\ c
ASSUME \A c \in c : c`
	wantFlat(t, `M: I$c == 1 I$s == 2 I$x2b2b(p, q) == I$c
I$d1(c) == c
I$d2(c(_)) == c(I$s)
I$d3 == \A c \in I$c : c
I$d4 == \E x, c \in I$c, y \in I$c : c
I$d5 == CHOOSE c \in I$c : c
I$d6 == {c \in I$c : c}
I$d7 == {c : c \in I$c, x \in I$c}
I$d8 == [<<c, x>> \in I$c, y \in I$c |-> c]
I$f9[c \in I$c] == c
I$d10 == LET c == I$c d(s) == c + s IN c + d(I$s)
I$d11 == LET c[s \in I$s] == I$c + s IN c
I$d12 == I$s(LAMBDA c : c, I$c)
I$d13 == LET p ++ q == I$x2b2b(p, q) IN I$s(++, I$s ++ I$s)
I$d14 == <<I$x2b2b(I$s, I$c), I$s(I$x2b2b)>>
I$d15 == (\A c \in I$s : c) /\ I$c`, k, `M: I == INSTANCE K WITH c <- 1, s <- 2`)
	// With the parameters of the instance ahead; an NdSign becomes a call.
	wantFlat(t, `M: I$s(a) == a I$x2b2b(a, p, q) == p I$d(a) == <<I$x2b2b(a, I$s(a), 1), I$s(a, I$x2b2b(a))>>`,
		`K: CONSTANT s p ++ q == p d == <<s ++ 1, s(++)>>`, `M: I(a) == INSTANCE K WITH s <- a`)
	// Signs that keep their names.
	wantFlat(t, `M: p ++ q == p d == <<1 ++ 1, Len(++)>> e == d ++ 2`, `K: p ++ q == p d == <<1 ++ 1, Len(++)>>`, `M: INSTANCE K e == d ++ 2`)
	wantFlat(t, `M: K$x2b2b(p, q) == p d == <<K$x2b2b(1, 1), Len(K$x2b2b)>>`, `K: LOCAL p ++ q == p d == <<1 ++ 1, Len(++)>>`, `M: EXTENDS K`)
	// Other nodes: what has names of another sort stays.
	const other = `<<#', [# EXCEPT ![#].c = @ + #], [c |-> #, s |-> #].c, [c : #], IF # THEN # ELSE ~#, CASE # -> # [] OTHER -> #, {#, 12},
#[#, #], # \X # \X #, [# -> #], # \/ "c", [#]_#, <<#>>_#, WF_#(#), BOOLEAN, SUBSET #>>`
	wantFlat(t, `M: I$c == 1 I$d == `+strings.ReplaceAll(other, "#", "I$c"), `K: CONSTANT c d == `+strings.ReplaceAll(other, "#", "c"), `M: I == INSTANCE K WITH c <- 1`)
	wantFlat(t, "M: I$c(a) == a I$d(a) ==\n /\\ I$c(a)\n /\\ 1", "K: CONSTANT c d ==\n /\\ c\n /\\ 1", `M: I(a) == INSTANCE K WITH c <- a`)
}

// NdRecursive. P5.2
func TestRecursive(t *testing.T) {
	const k = `K: CONSTANT c RECURSIVE f(_), g(_, _) LOCAL g(m, n) == f(m) f(n) == g(n, c)`
	wantFlat(t, `M: CONSTANT c RECURSIVE f(_), K$g(_, _) K$g(m, n) == f(m) f(n) == K$g(n, c)`, k, `M: EXTENDS K`)
	wantFlat(t, `M: K$c == 1 RECURSIVE f(_), K$g(_, _) K$g(m, n) == f(m) f(n) == K$g(n, K$c)`, k, `M: INSTANCE K WITH c <- 1`)
	wantFlat(t, `M: I$c(a, b) == a RECURSIVE I$f(_, _, _), I$g(_, _, _, _) I$g(a, b, m, n) == I$f(a, b, m) I$f(a, b, n) == I$g(a, b, n, I$c(a, b))`,
		k, `M: I(a, b) == INSTANCE K WITH c <- a`)
	wantFlat(t, `P: M$K$c == 1 RECURSIVE M$f(_), M$K$g(_, _) M$K$g(m, n) == M$f(m) M$f(n) == M$K$g(n, M$K$c)`, k, `M: LOCAL INSTANCE K WITH c <- 1`, `P: EXTENDS M`)
	// It comes once by several ways.
	wantFlat(t, `P: CONSTANT c RECURSIVE f(_), K$g(_, _) K$g(m, n) == f(m) f(n) == K$g(n, c)`, k, `M: EXTENDS K`, `P: EXTENDS K, M`)
	// One that declares nothing: what it names is declared ahead, or is no operator of the module.
	wantFlat(t, `M: CONSTANT c d == c RECURSIVE d, e(_), c F[n \in c] == d`, `M: CONSTANT c d == c RECURSIVE d, e(_), c F[n \in c] == d`)
	wantFlat(t, `M: RECURSIVE e RECURSIVE e(_), e(_) e(n) == e e2 == e`, `M: RECURSIVE e RECURSIVE e(_), e(_) e(n) == e e2 == e`)
	wantError(t, api.ErrUnknown, `M: RECURSIVE e(_) d == §e`)
	wantError(t, api.ErrUnknown, `M: RECURSIVE F F[n \in 1] == §F`)
	wantError(t, api.ErrUnknown, `K: d == 1`, `M: RECURSIVE I d == §I I == INSTANCE K`)
	// One whose definition is further down declares the name: only that definition may do so.
	wantError(t, api.ErrDouble, `M: RECURSIVE e CONSTANT §e e == 1`)
	wantError(t, api.ErrDouble, `M: RECURSIVE e VARIABLE §e e == 1`)
	wantError(t, api.ErrDouble, `M: RECURSIVE e §e[n \in 1] == n e == 1`)
	wantError(t, api.ErrDouble, `M: RECURSIVE e e == 1 §e == 2`)
	wantError(t, api.ErrDouble, `K: d == 1`, `M: RECURSIVE e e == §INSTANCE K e == 1`)
	wantError(t, api.ErrDouble, `K: d == 1`, `M: RECURSIVE d §INSTANCE K d == 1`)
	wantError(t, api.ErrDouble, `M: RECURSIVE §Len(_) Len(n) == 1`)
	wantFlat(t, `M: RECURSIVE Len(_)`, `M: RECURSIVE Len(_)`)
}

// Theorems are left out, and assumptions stay. P5.2
func TestTheorems(t *testing.T) {
	wantFlat(t, `M: CONSTANT c ASSUME c d == c ASSUME d == 1 ASSUME d == c`, `M: CONSTANT c ASSUME c THEOREM c d == c THEOREM d == c ASSUME d == 1 ASSUME d == c`)
	wantError(t, api.ErrUnknown, `M: CONSTANT c THEOREM c = §d`)
	wantFlat(t, `M: I$e == 1`, `K: ASSUME 1 e == 1 THEOREM e`, `M: I == INSTANCE K`)
}

// Places: what comes from a node has its place; what an instance makes has that of the instance. P5.2
func TestPlaces(t *testing.T) {
	texts := []string{`K: CONSTANTS c, o(_) p ++ q == p d(m) == c ++ o(m) f[n \in c] == n`, `M: q == 1 LOCAL I(a) == INSTANCE K WITH c <- a * q, o <- I2!e`}
	texts[1] = strings.Replace(texts[1], "LOCAL", "I2 == INSTANCE L LOCAL", 1)
	n := flatOf(t, `L: e(m) == m`, texts[0], texts[1])
	inK := func(s string) string { return "K " + s }
	inM := func(s string) string { return "M " + s }
	const instance = `M INSTANCE K WITH c <- a * q, o <- I2!e`
	want := [][]string{
		{inM(`q == 1`), inM(`1`)},
		{`L e(m) == m`, `L m`, `L m`},
		{instance, inM(`a`), inM(`a * q`), inM(`a`), inM(`q`)},
		{instance, inM(`a`), instance, instance, instance},
		{inK(`p ++ q == p`), inM(`a`), inK(`p`), inK(`q`), inK(`p`)},
		{inK(`d(m) == c ++ o(m)`), inM(`a`), inK(`m`), inK(`c ++ o(m)`), instance, inK(`c`), instance, inK(`o(m)`), instance, inK(`m`)},
		{inK(`f[n \in c] == n`), inM(`a`), instance, inK(`f[n \in c] == n`), inK(`n \in c`), inK(`n`), inK(`c`), instance, inK(`n`), instance},
	}
	all := map[string]string{"K": textOf(texts[0]), "M": textOf(texts[1]), "L": textOf(`L: e(m) == m`)}
	if len(n.L) != len(want) {
		t.Fatalf("%d units: %s", len(n.L), shown(n))
	}
	for i, u := range n.L {
		if got := preorder(u); len(got) != len(want[i]) {
			t.Errorf("%s: %d nodes", shown(u), len(got))
		} else {
			for k, e := range got {
				name, text, _ := strings.Cut(want[i][k], " ")
				if whole := all[name]; e.End > len(whole) || whole[e.At:e.End] != text {
					t.Errorf("%s: %d to %d, want %s of %s", shown(e), e.At, e.End, text, name)
				}
			}
		}
	}
	if whole := textOf(texts[1]); n.At != 0 || n.End != len(strings.TrimSpace(whole)) {
		t.Errorf("the module is at %d to %d of %d", n.At, n.End, len(whole))
	}
}

// preorder returns the nodes of a tree, each one ahead of its elements.
func preorder(n api.Node) []api.Node {
	l := []api.Node{n}
	for _, e := range n.L {
		l = append(l, preorder(e)...)
	}
	return l
}
