package parse_test

import (
	"strings"
	"testing"

	"foregone/api"
	"foregone/parse"
)

// P3.1

func TestModules(t *testing.T) {
	for text, want := range map[string]string{
		"---- MODULE M ----\n====":                                       "module M",
		"----MODULE M----====":                                           "module M",
		"------ MODULE 1a -------\n=====":                                "module 1a",
		"---- MODULE M ---- EXTENDS A ====":                              "module M(extends(A))",
		"---- MODULE M ---- EXTENDS A, B, A\n---- ---- x == 1 ---- ====": "module M(extends(A, B, A), def x([1]))",
		"---- MODULE M ---- ---- ==== \\* the end\n":                     "module M",
	} {
		if n := moduleTree(t, text); brief(n) != want {
			t.Errorf("Module(%q): %s, want %s", text, brief(n), want)
		}
		compareModule(t, text)
	}
	for _, x := range []struct {
		text string
		at   int
		e    api.Errno
	}{
		{"", 0, api.ErrParse}, {"a", 0, api.ErrParse}, {"MODULE M ---- ====", 0, api.ErrParse}, {"----", 4, api.ErrParse}, {"---- M ----", 5, api.ErrParse}, {"---- MODULE", 11, api.ErrParse}, {"---- MODULE IF ---- ====", 12, api.ErrParse}, {"---- MODULE 1 ---- ====", 12, api.ErrParse}, {"---- MODULE M ====", 14, api.ErrParse}, {"---- MODULE M x == 1 ====", 14, api.ErrParse}, {"---- MODULE M ----", 18, api.ErrParse}, {"---- MODULE M ---- \n", 20, api.ErrParse},
		{"---- MODULE M ---- ==== a", 24, api.ErrParse}, {"---- MODULE M ---- ==== ====", 24, api.ErrParse}, {"---- MODULE M ---- ==== ---- MODULE N ---- ====", 24, api.ErrParse}, {"---- MODULE M ---- ==== ?", 24, api.ErrChar}, {"---- MODULE M ---- x == 1", 25, api.ErrParse}, {"---- MODULE M ---- x == a = b = c", 30, api.ErrPrec}, {"---- MODULE M ---- a ? ====", 21, api.ErrChar},
		{"---- MODULE M ---- EXTENDS ====", 27, api.ErrParse}, {"---- MODULE M ---- EXTENDS A, ====", 30, api.ErrParse}, {"---- MODULE M ---- EXTENDS A B ====", 31, api.ErrParse}, {"---- MODULE M ---- EXTENDS A EXTENDS B ====", 29, api.ErrParse}, {"---- MODULE M ---- x == 1 EXTENDS A ====", 26, api.ErrParse}, {"---- MODULE M ---- ---- EXTENDS A ====", 24, api.ErrParse}, {"---- MODULE M ---- EXTENDS M!N ====", 28, api.ErrParse}, {"---- MODULE M ---- ---- MODULE N ---- ==== ====", 24, api.ErrParse},
	} {
		if n, at, e := parse.Module(x.text); !isZero(n) || at != x.at || e != x.e {
			t.Errorf("Module(%q): %d at %d, want %d at %d", x.text, e, at, x.e, x.at)
		}
	}
}

func TestSeveralModules(t *testing.T) {
	one, two, three := "---- MODULE A ----\nx == 1\n====", "---- MODULE B ---- EXTENDS A ====", "---- MODULE A ----====\n"
	for _, l := range [][]string{{one}, {one, two}, {two, one, three}, {three, three, three}} {
		text := strings.Join(l, "\n")
		trees, at, e := parse.Modules(text)
		if len(trees) != len(l) || at != 0 || e != api.OK {
			t.Errorf("Modules(%q): %d trees, %d at %d", text, len(trees), e, at)
			continue
		}
		begins := 0
		for i, n := range trees {
			alone := moduleTree(t, strings.Repeat(" ", begins)+l[i])
			if !equal(n, alone) {
				t.Errorf("Modules(%q): %s, alone %s", text, brief(n), brief(alone))
			}
			begins += len(l[i]) + 1
		}
	}
	for _, x := range []struct {
		text string
		at   int
		e    api.Errno
	}{
		{"", 0, api.ErrParse}, {" ", 1, api.ErrParse}, {one + " a", len(one) + 1, api.ErrParse}, {one + "\n" + two + " ====", len(one) + len(two) + 2, api.ErrParse}, {one + " ----", len(one) + 5, api.ErrParse}, {one + " a = ", len(one) + 1, api.ErrParse}, {"a == 1", 0, api.ErrParse}, {one + one[:20], len(one) + 20, api.ErrParse}, {one + " ---- MODULE C ---- x == 1 .. 2 .. 3 ====", len(one) + 32, api.ErrPrec}, {one + " (*", len(one) + 1, api.ErrComment},
	} {
		if l, at, e := parse.Modules(x.text); len(l) != 0 || at != x.at || e != x.e {
			t.Errorf("Modules(%q): %d trees, %d at %d, want %d at %d", x.text, len(l), e, at, x.e, x.at)
		}
	}
}

func TestDeclarations(t *testing.T) {
	expectUnits(t, "")
	expectUnits(t, "CONSTANT N", "constants(decl N)")
	expectUnits(t, "CONSTANTS N, F(_), G(_, _), M", "constants(decl N, decl F#1, decl G#2, decl M)")
	expectUnits(t, "RECURSIVE f, g(_)", "recursive(decl f, decl g#1)")
	expectUnits(t, "VARIABLE x", "variables(var x)")
	expectUnits(t, `VARIABLES x, y \in S \cup T, z \in 0..2, w`, `variables(var x, var y(\cup(S, T)), var z(..([], [2])), var w)`)
	expectUnits(t, "ASSUME a", "assume(a)")
	expectUnits(t, "ASSUME A == a = b ASSUMPTION b AXIOM C == c", "assume A(=(a, b))", "assume(b)", "assume C(c)")
	expectUnits(t, "THEOREM a => b THEOREM T == [](a)", "theorem(=>(a, b))", "theorem T(pre [](a))")
	expectUnits(t, "ASSUME f(x) = 1", "assume(=(call f(x), [1]))")
	expectUnits(t, "CONSTANT N ---- VARIABLE x ----", "constants(decl N)", "variables(var x)")
	expectUnits(t, "VARIABLE x \\in {a} y == 1 CONSTANT z", "variables(var x(set(a)))", "def y([1])", "constants(decl z)")
	for _, x := range []struct {
		units string
		at    int
	}{
		{"CONSTANT", 8}, {"CONSTANT ====", 9}, {"CONSTANT N,", 11}, {"CONSTANT N M ====", 13}, {"CONSTANT 1", 9}, {"CONSTANT F()", 11}, {"CONSTANT F(x)", 11}, {"CONSTANT F(_", 12}, {"CONSTANT F(_ _)", 13}, {"CONSTANT F(_,)", 13}, {"CONSTANT F(1)", 11}, {`CONSTANT N \in S`, 11}, {"CONSTANT N == 1", 11}, {"LOCAL CONSTANT N", 6}, {"CONSTANT F(_)(_)", 13}, {"CONSTANT _", 9},
		{"RECURSIVE", 9}, {"RECURSIVE f[_]", 11}, {"VARIABLE", 8}, {"VARIABLE x(_)", 10}, {"VARIABLE x = 1", 11}, {`VARIABLE x \in`, 14}, {`VARIABLE x, \in S`, 12}, {`VARIABLE x \in S y ====`, 19}, {"LOCAL VARIABLE x", 6},
		{"ASSUME", 6}, {"ASSUME ====", 7}, {"ASSUME A ==", 11}, {"ASSUME A == B == C", 14}, {"ASSUME f(x) == 1", 12}, {"ASSUME a b ====", 11}, {"THEOREM", 7}, {"THEOREM x' == 1", 11}, {"LOCAL ASSUME a", 6}, {"LOCAL THEOREM a", 6}, {"ASSUME 1 == a", 9},
		{"a", 1}, {"1 == a", 0}, {"a b", 2}, {"= a", 0}, {"LOCAL", 5}, {"LOCAL LOCAL a == 1", 6}, {"LOCAL ----", 6}, {"IF a THEN b ELSE c", 0}, {"MODULE N", 0}, {"WITH a", 0}, {"(a == 1)", 0},
	} {
		expectUnitError(t, x.units, x.at, api.ErrParse)
	}
	expectUnitError(t, `ASSUME a = b = c`, 13, api.ErrPrec)
	expectUnitError(t, `VARIABLE x \in S, y \in a = b = c`, 30, api.ErrPrec)
	expectUnits(t, `VARIABLE x \in S \in T`, `variables(var x(\in(S, T)))`)
}

func TestDefinitions(t *testing.T) {
	expectUnits(t, "A == 1", "def A([1])")
	expectUnits(t, "A == b B == c", "def A(b)", "def B(c)")
	expectUnits(t, "LOCAL A == 1", "def A#1([1])")
	expectUnits(t, "F(x, G(_, _), H(_)) == x", "def F(decl x, decl G#2, decl H#1, x)")
	expectUnits(t, "LOCAL F(x) == x", "def F#1(decl x, x)")
	expectUnits(t, "a (+) b == a", "def (+)(decl a, decl b, a)")
	expectUnits(t, "LOCAL a | b == a + b c -- d == c", "def |#1(decl a, decl b, +(a, b))", "def --(decl c, decl d, c)")
	expectUnits(t, `f[x \in S, y, z \in T] == x`, "fundef f(bind(x, S), bind(y, z, T), x)")
	expectUnits(t, `LOCAL f[<<x, y>> \in S] == x`, "fundef f#1(bind#1(x, y, S), x)")
	expectUnits(t, `A == f g[x \in S] == h`, "def A(f)", "fundef g(bind(x, S), h)")
	expectUnits(t, "A ==\n/\\ a\n/\\ b\nB == c", `def A(list /\(a, b))`, "def B(c)")
	expectUnits(t, "A == /\\ a\n  B == /\\ b\n       /\\ c", `def A(list /\(a))`, `def B(list /\(b, c))`)
	for _, sign := range infixSigns {
		if infixTable[sign].definable {
			expectUnits(t, "a "+sign+" b == a", "def "+sign+"(decl a, decl b, a)")
		} else {
			expectUnitError(t, "a "+sign+" b == a", 2, api.ErrParse)
		}
	}
	for _, x := range []struct {
		units string
		at    int
	}{
		{"A ==", 4}, {"A == ====", 5}, {"A = 1", 2}, {"A() == 1", 2}, {"A(x == 1", 4}, {"A(x) = 1", 5}, {"A(x y) == 1", 4}, {"A(1) == 1", 2}, {"A(x()) == 1", 4}, {"A(x(_)", 6}, {"A(x(y)) == 1", 4}, {"A(x)(y) == 1", 4}, {"A[x] == 1", 3}, {"A[] == 1", 1}, {"A[ ] == 1", 3}, {`A[x \in S == 1`, 10}, {`A[x \in S]_v == 1`, 9}, {`A[x \in S](y) == 1`, 10}, {`A[x \in S] == INSTANCE M`, 14}, {"A == B == C", 7}, {"A == LAMBDA x : x", 5}, {"A == + ----", 5},
		{"a (+) == a", 6}, {"a (+) 1 == a", 6}, {"a (+) b", 7}, {"a (+) b(_) == a", 7}, {"a(_) (+) b == a", 2}, {"(+) b == a", 0}, {"- a == b", 0}, {"a ' == b", 2}, {"a (+) b == INSTANCE M", 11}, {"a!b == c", 1}, {"a (+) b (+) c == d", 8}, {`a \X b == c`, 2},
	} {
		expectUnitError(t, x.units, x.at, api.ErrParse)
	}
	expectUnitError(t, "A == b B == c = d = e", 18, api.ErrPrec)
}

func TestInstances(t *testing.T) {
	expectUnits(t, "INSTANCE M", "instance M")
	expectUnits(t, "LOCAL INSTANCE M", "instance M#1")
	expectUnits(t, "INSTANCE M WITH a <- b, c <- 1 + d", "instance M(subst a(b), subst c(+([1], d)))")
	expectUnits(t, "I == INSTANCE M", "def I(instance M)")
	expectUnits(t, "LOCAL I(x, F(_)) == INSTANCE M WITH a <- F(x)", "def I#1(decl x, decl F#1, instance M(subst a(call F(x))))")
	expectUnits(t, "INSTANCE M WITH (+) <- F, | <- LAMBDA x, y : x", "instance M(subst (+)(F), subst |(lambda(decl x, decl y, x)))")
	expectUnits(t, "INSTANCE M WITH a <- +", "instance M(subst a(sign +))")
	expectUnits(t, "INSTANCE M WITH a <- +, b <- -, c <- /\\", "instance M(subst a(sign +), subst b(sign -), subst c(sign /\\))")
	expectUnits(t, "INSTANCE M WITH a <- - B == c", "instance M(subst a(sign -))", "def B(c)")
	expectUnits(t, "INSTANCE M WITH a <- -1 B == c", "instance M(subst a(pre -([1])))", "def B(c)")
	expectUnits(t, "INSTANCE M WITH a <- -(b) B == c", "instance M(subst a(pre -(b)))", "def B(c)")
	expectUnits(t, "INSTANCE M WITH a <- + ----", "instance M(subst a(sign +))")
	expectUnits(t, "INSTANCE M WITH a <- f(+ ), b <- c", "instance M(subst a(call f(sign +)), subst b(c))")
	expectUnits(t, "INSTANCE M WITH a <- /\\ (b)", `instance M(subst a(list /\(b)))`)
	expectUnits(t, "INSTANCE M WITH a <- - IF b THEN c ELSE d", "instance M(subst a(pre -(if(b, c, d))))")
	for _, word := range unitWords {
		more := map[string]string{"LOCAL": "LOCAL b == c", "INSTANCE": "INSTANCE N"}[word]
		if more == "" {
			more = word + " b"
		}
		alone, _, e := parse.Module(head + more + "\n====")
		if e != api.OK {
			t.Fatalf("%q: %d", more, e)
		}
		expectUnits(t, "INSTANCE M WITH a <- - "+more, "instance M(subst a(sign -))", brief(alone.L[0]))
	}
	for _, x := range []struct {
		units string
		at    int
	}{
		{"INSTANCE", 8}, {"INSTANCE 1", 9}, {"INSTANCE M WITH", 15}, {"INSTANCE M WITH ====", 16}, {"INSTANCE M WITH a", 17}, {"INSTANCE M WITH a = b", 18}, {"INSTANCE M WITH a <-", 20}, {"INSTANCE M WITH a <- b,", 23}, {"INSTANCE M WITH + <- b", 16}, {"INSTANCE M WITH a(x) <- b", 17}, {"INSTANCE M WITH 1 <- b", 16}, {"INSTANCE M a <- b", 13}, {"INSTANCE M, N", 10}, {"INSTANCE M!N", 10}, {"INSTANCE M(x)", 10}, {"INSTANCE INSTANCE M", 9},
		{"INSTANCE M WITH a <- +", 22}, {`INSTANCE M WITH a <- \X, b <- c`, 21}, {"INSTANCE M WITH a <- + (b)", 21}, {"INSTANCE M WITH a <- + EXTENDS", 21}, {"INSTANCE M WITH a <- + )", 21}, {"INSTANCE M WITH a <- - b", 24}, {"INSTANCE M WITH a <- - )", 23}, {"INSTANCE M WITH a <- f(+ b)", 23}, {"INSTANCE M WITH a <- - MODULE", 23},
		{"I == INSTANCE", 13}, {"I == INSTANCE M WITH", 20}, {"I == LOCAL INSTANCE M", 5}, {"I == (INSTANCE M)", 6}, {"I == INSTANCE M + 1", 16}, {"I == 1 + INSTANCE M", 9},
	} {
		expectUnitError(t, x.units, x.at, api.ErrParse)
	}
}

// TestBytesOfUnits checks At and End of units and their parts.
func TestBytesOfUnits(t *testing.T) {
	for _, x := range []struct {
		units string
		path  []int
		want  string
	}{
		{"CONSTANTS N, F(_, _) ", []int{0}, "CONSTANTS N, F(_, _)"}, {"CONSTANTS N, F(_, _)", []int{0, 0}, "N"}, {"CONSTANTS N, F(_, _)", []int{0, 1}, "F(_, _)"}, {"RECURSIVE f(_), g", []int{0}, "RECURSIVE f(_), g"}, {`VARIABLE x \in (S), y`, []int{0}, `VARIABLE x \in (S), y`}, {`VARIABLE x \in (S), y`, []int{0, 0}, `x \in (S)`}, {`VARIABLE x \in (S), y`, []int{0, 0, 0}, "S"}, {`VARIABLE x \in (S), y`, []int{0, 1}, "y"},
		{"ASSUME A == (a) ", []int{0}, "ASSUME A == (a)"}, {"THEOREM (a)", []int{0}, "THEOREM (a)"}, {"THEOREM (a)", []int{0, 0}, "a"}, {"LOCAL A(x) == (a) ", []int{0}, "LOCAL A(x) == (a)"}, {"LOCAL A(x) == (a)", []int{0, 0}, "x"}, {"LOCAL A(x) == (a)", []int{0, 1}, "a"}, {"LOCAL a (+) b == (c)", []int{0}, "LOCAL a (+) b == (c)"}, {"LOCAL a (+) b == (c)", []int{0, 0}, "a"}, {"LOCAL a (+) b == (c)", []int{0, 1}, "b"}, {`LOCAL f[x \in S] == (c)`, []int{0}, `LOCAL f[x \in S] == (c)`}, {`f[x \in S] == (c) ----`, []int{0}, `f[x \in S] == (c)`},
		{"LOCAL INSTANCE M ", []int{0}, "LOCAL INSTANCE M"}, {"LOCAL I == INSTANCE M WITH a <- (b)", []int{0}, "LOCAL I == INSTANCE M WITH a <- (b)"}, {"LOCAL I == INSTANCE M WITH a <- (b)", []int{0, 0}, "INSTANCE M WITH a <- (b)"}, {"I == INSTANCE M WITH a <- (b), (+) <- -", []int{0, 0, 0}, "a <- (b)"}, {"I == INSTANCE M WITH a <- (b), (+) <- -", []int{0, 0, 0, 0}, "b"}, {"I == INSTANCE M WITH a <- (b), (+) <- -", []int{0, 0, 1}, "(+) <- -"}, {"I == INSTANCE M WITH a <- (b), (+) <- -", []int{0, 0, 1, 0}, "-"},
		{"EXTENDS A, B ----", []int{0}, "EXTENDS A, B"}, {"EXTENDS A, B ----", []int{0, 1}, "B"}, {"A == a", nil, "---- MODULE M ---- A == a ----\n===="},
	} {
		text := " ---- MODULE M ---- " + x.units + " ----\n==== "
		n := moduleTree(t, text)
		for _, i := range x.path {
			n = n.L[i]
		}
		if got := text[n.At:n.End]; got != x.want {
			t.Errorf("%q, the node %v: %q, want %q", x.units, x.path, got, x.want)
		}
	}
}
