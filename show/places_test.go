package show_test

import (
	"slices"
	"strconv"
	"strings"
	"testing"

	"foregone/api"
	"foregone/show"
)

// briefPaths writes paths with blanks in them, and semicolons between them.
func briefPaths(paths [][]int) string {
	var l []string
	for _, p := range paths {
		var s []string
		for _, i := range p {
			s = append(s, strconv.Itoa(i))
		}
		l = append(l, strings.Join(s, " "))
	}
	return strings.Join(l, "; ")
}

const head = "---- MODULE M ----\n"

// P4.1
func TestPlaces(t *testing.T) {
	for text, want := range map[string]string{
		"a": "", "1": "", "(a)": "", "{}": "", "<<>>": "", "M!N": "",
		"a + b * c": "0; 1; 1 0; 1 1", "(a + b) * c": "0; 0 0; 0 1; 1", "-a": "0", "a'": "0", "/\\ a\n/\\ b": "0; 1",
		"f[x, y].a": "0; 0 0; 0 1; 0 2", "F(x, +, LAMBDA y, z : y)": "0; 2 2", "M!N(1)!Op(2)": "1 0; 2 0",
		`\A x, y \in S, <<z, w>> \in T : p`: `0 2; 1 2; 2`, `CHOOSE x \in S : p`: "0 1; 1", `{x \in S : p}`: "0 1; 1", `{e : x \in S, y \in T}`: "0; 1 1; 2 1", `[x \in S |-> e]`: "0 1; 1",
		"[S -> T]": "0; 1", "[a |-> x, b |-> y]": "0 0; 1 0", "[a : x]": "0 0", "[f EXCEPT ![x, y].a[z] = v, !.b = w]": "0; 1 0 0; 1 0 1; 1 2 0; 1 3; 2 1",
		`A \X B \X C`: "0; 1; 2", "IF a THEN b ELSE c": "0; 1; 2", "CASE a -> b [] OTHER -> c": "0 0; 0 1; 1 0", `LET f(x, y) == a + b g[z \in S] == c IN d`: "0 2 0; 0 2 1; 1 0 1; 2", `LET a (+) b == c' IN d`: "0 2 0; 1",
		"[A]_v": "0; 1", "<<A>>_<<x, y>>": "0; 1; 1 0; 1 1", "WF_(M!v(1))(A)": "0; 0 1 0; 1", "{a, b}": "0; 1",
		head + "====": "", head + "EXTENDS A, B\n====": "", head + "CONSTANTS N, F(_)\n====": "", head + "VARIABLES x, y \\in S \\cup T\n====": "0 1 0 0; 0 1 0 1",
		head + "ASSUME a = 1 THEOREM T == b'\n====": "0 0 0; 0 0 1; 1 0 0", head + "A == b' f[x \\in S] == g[x] ====": "0 0 0; 1 0 1; 1 1 0; 1 1 1",
		head + "INSTANCE K WITH a <- b, (+) <- -, c <- LAMBDA x : x I(x) == INSTANCE L WITH d <- e ====": "0 0 0; 0 2 0 1; 1 1 0 0", head + "a (+) b == c * d\n====": "0 2 0; 0 2 1",
	} {
		n := tree(t, text)
		if got := briefPaths(placesOf(t, n)); got != want {
			t.Errorf("Places of %q: %s, want %s", text, got, want)
		}
	}
}

// P4.1: an element of a place is itself a tree that has no place for the whole.
func TestPlacesWithin(t *testing.T) {
	for seed := range uint64(300) {
		m := newMaker(seed)
		n := m.any(4)
		paths := placesOf(t, n)
		for i, p := range paths {
			within := placesOf(t, at(n, p))
			for k, q := range within {
				if i+1+k >= len(paths) || !slices.Equal(paths[i+1+k], slices.Concat(p, q)) {
					t.Fatalf("seed %d: behind %v there is no %v in it", seed, p, q)
				}
			}
		}
	}
}

// P4.1, R2: a result is new memory.
func TestPlacesAreNew(t *testing.T) {
	n := tree(t, "a + b * c")
	l := placesOf(t, n)
	l[2][0] = 7
	l[3] = append(l[3][:1], 9)
	if got := briefPaths(placesOf(t, n)); got != "0; 1; 1 0; 1 1" {
		t.Errorf("changed: %s", got)
	}
	n = number(77)
	tokens, _ := show.Tokens(n, nil)
	tokens[0].I.D[0] = 3
	if n.I.D[0] != 77 {
		t.Error("the number of a token is that of the tree")
	}
}

// P4.1
func TestTokens(t *testing.T) {
	n := tree(t, `\A x \in S : x.a[1] # "s"`)
	for _, par := range [][]bool{all(8, false), all(8, true), {false, false, true, false, true, false, false, true}} {
		count := len(placesOf(t, n))
		l, e := show.Tokens(n, par[:count])
		if e != api.OK {
			t.Fatal(e)
		}
		want := tokensOf(t, withOf(t, n, par[:count]))
		if !slices.EqualFunc(l, want, alike) {
			t.Errorf("Tokens: %v, want %v", l, want)
		}
		for _, x := range l {
			if x.At != 0 || x.End != 0 || x.Line != 0 || x.Col != 0 {
				t.Errorf("a token with a place: %v", x)
			}
		}
	}
	n = tree(t, "---- MODULE M ----\nCONSTANT C\n----\nVARIABLE v\nAXIOM a\nASSUMPTION b\nD == INSTANCE K\n======")
	l, e := show.Tokens(n, nil)
	want := tokensOf(t, "---- MODULE M ---- CONSTANTS C VARIABLES v ASSUME a ASSUME b D == INSTANCE K ====")
	if e != api.OK || !slices.EqualFunc(l, want, alike) {
		t.Errorf("Tokens of a module: %d, %v", e, l)
	}
}
