package show_test

import (
	"math"
	"slices"
	"strings"
	"testing"

	"foregone/api"
	"foregone/show"
)

// expectErrors checks the errors of all functions with a tree: that of With and Tokens with par, that of Text, Full and Needed, and that of Places.
func expectErrors(t *testing.T, n api.Node, par []bool, with, text, places api.Errno) {
	t.Helper()
	if s, e := show.With(n, par); e != with || e != api.OK && s != "" {
		t.Errorf("With: %.40q, %d, want %d", s, e, with)
	}
	if l, e := show.Tokens(n, par); e != with || e != api.OK && l != nil {
		t.Errorf("Tokens: %d tokens, %d, want %d", len(l), e, with)
	}
	if s, e := show.Text(n); e != text || e != api.OK && s != "" {
		t.Errorf("Text: %.40q, %d, want %d", s, e, text)
	}
	if s, e := show.Full(n); e != text || e != api.OK && s != "" {
		t.Errorf("Full: %.40q, %d, want %d", s, e, text)
	}
	if l, e := show.Needed(n); e != text || e != api.OK && l != nil {
		t.Errorf("Needed: %v, %d, want %d", l, e, text)
	}
	if l, e := show.Places(n); e != places || e != api.OK && l != nil {
		t.Errorf("Places: %v, %d, want %d", l, e, places)
	}
}

// P4.1, P4.2, P4.3: trees that are not well-formed.
func TestErrTree(t *testing.T) {
	name := named("a")
	deep := name
	for range api.MaxDeepN {
		deep = nd(api.NdPrime, "", deep)
	}
	wide := nd(api.NdSet, "", slices.Repeat([]api.Node{name}, api.MaxTokens)...)
	shared := name
	for range 60 {
		shared = nd(api.NdSet, "", shared, shared)
	}
	for i, n := range []api.Node{
		{}, {Kind: -1}, {Kind: 51}, nd(api.NdBind, "", name, name), nd(api.NdField, "a", name), nd(api.NdArm, "", name, name), nd(api.NdStep, "a"), nd(api.NdUpdate, "", nd(api.NdStep, "a"), name), nd(api.NdLambda, "", nd(api.NdDecl, "a"), name), nd(api.NdSign, "+"),
		nd(api.NdDefine, "A", name), nd(api.NdConstants, "", nd(api.NdDecl, "a")), nd(api.NdDecl, "a"), nd(api.NdInstance, "K"), nd(api.NdModule, ""), nd(api.NdModule, "M", nd(api.NdModule, "N")), nd(api.NdModule, "M", name), nd(api.NdModule, "A!B"), nd(api.NdModule, "M", nd(api.NdDefine, "A!B", name)),
		named(""), named("IF"), named("a b"), named("WF_a"), named(strings.Repeat("x", 41)), named("A!B"), nd(api.NdString, "\x00"), nd(api.NdWord, "STRING_"), {Kind: api.NdNumber, I: api.Int{Neg: true, D: []int{1}}}, {Kind: api.NdNumber, I: api.Int{D: []int{0}}}, nd(api.NdPrefix, "+", name), nd(api.NdInfix, `\X`, name, name), nd(api.NdInfix, `\land`, name, name), nd(api.NdInfix, "+", name), nd(api.NdJunct, "=>", name), nd(api.NdJunct, `/\`), nd(api.NdProduct, "", name), nd(api.NdQuant, `\A`, name), nd(api.NdCase, ""), nd(api.NdCall, "a"), nd(api.NdQual, "", name),
		{Kind: api.NdName, S: "a", N: 1}, {Kind: api.NdName, S: "a", L: []api.Node{name}}, nd(api.NdSet, "", api.Node{}), nd(api.NdSet, "", nd(api.NdSign, "+")), deep, wide, shared,
	} {
		expectErrors(t, n, nil, api.ErrTree, api.ErrTree, api.ErrTree)
		for _, f := range []func(n api.Node) (api.Node, api.Errno){show.Unbullet, show.Bullet} {
			if m, e := f(n); e != api.ErrTree || m.Kind != 0 || len(m.L) > 0 {
				t.Errorf("tree %d: %d, %d", i, m.Kind, e)
			}
		}
	}
	// The tree comes ahead of the parentheses.
	expectErrors(t, nd(api.NdSet, "", api.Node{}), all(3, true), api.ErrTree, api.ErrTree, api.ErrTree)
}

// P4.1, P4.2: lists of parentheses that are too short, or too long.
func TestErrArg(t *testing.T) {
	for text, count := range map[string]int{"a": 0, "a + b": 2, "a + b * c": 4, head + "====": 0, head + "A == x'\n====": 1} {
		n := tree(t, text)
		for k := range count + 3 {
			want := api.ErrArg
			if k == count {
				want = api.OK
			}
			expectErrors(t, n, all(k, true), want, api.OK, api.OK)
			expectErrors(t, n, all(k, false), want, api.OK, api.OK)
		}
	}
	// The parentheses come ahead of the limits.
	n := nd(api.NdTuple, "", slices.Repeat([]api.Node{named("a")}, 19999)...)
	expectErrors(t, n, all(19998, true), api.ErrArg, api.ErrLimit, api.OK)
	expectErrors(t, n, all(20000, false), api.ErrArg, api.ErrLimit, api.OK)
}

// P4.1, P4.2: texts of 20000 tokens, and of one more.
func TestMostTokens(t *testing.T) {
	names := func(count int) []api.Node { return slices.Repeat([]api.Node{named("a")}, count) }
	n := nd(api.NdPrime, "", nd(api.NdTuple, "", names(4999)...))
	expectErrors(t, n, all(5000, true), api.OK, api.OK, api.OK)
	expectErrors(t, n, all(5000, false), api.OK, api.OK, api.OK)
	if full, _ := show.Full(n); len(tokensOf(t, full)) != api.MaxTokens {
		t.Errorf("Full has %d tokens", len(tokensOf(t, full)))
	}
	n = nd(api.NdTuple, "", names(5000)...)
	expectErrors(t, n, all(5000, true), api.ErrLimit, api.ErrLimit, api.OK)
	expectErrors(t, n, flip(all(5000, true), 77), api.OK, api.ErrLimit, api.OK)
	expectErrors(t, n, all(5000, false), api.OK, api.ErrLimit, api.OK)
	// 1 + 2 * 9999 tokens, and one more for the prime.
	n = nd(api.NdPrime, "", nd(api.NdTuple, "", names(9999)...))
	expectErrors(t, n, all(10000, false), api.OK, api.ErrLimit, api.OK)
	expectErrors(t, n, flip(all(10000, false), 9999), api.ErrLimit, api.ErrLimit, api.OK)
	m := nd(api.NdModule, "M", nd(api.NdConstants, "", nd(api.NdDecl, "a"), api.Node{Kind: api.NdDecl, S: "F", N: 9995}))
	expectErrors(t, m, nil, api.OK, api.OK, api.OK)
	if text := textOf(t, m); len(tokensOf(t, text)) != api.MaxTokens {
		t.Errorf("%d tokens", len(tokensOf(t, text)))
	}
	m.L[0].L[1].N++
	expectErrors(t, m, nil, api.ErrLimit, api.ErrLimit, api.OK)
	m.L[0].L[1].N = math.MaxInt
	expectErrors(t, m, nil, api.ErrLimit, api.ErrLimit, api.OK)
}

// P4.1, P4.2: texts of 100000 bytes, and of one more.
func TestMostBytes(t *testing.T) {
	strs := nd(api.NdTuple, "", slices.Repeat([]api.Node{nd(api.NdString, strings.Repeat("x", 200))}, 485)...)
	full, e := show.Full(strs)
	if e != api.OK {
		t.Fatal(e)
	}
	room := api.MaxText - len(full) - len(`, ("")`)
	for more, want := range map[int]api.Errno{0: api.OK, 1: api.ErrLimit} {
		tuple := func(length int) api.Node {
			return nd(api.NdTuple, "", append(slices.Clone(strs.L), nd(api.NdString, strings.Repeat("x", length)))...)
		}
		n := tuple(room + more)
		expectErrors(t, n, all(486, true), want, want, api.OK)
		expectErrors(t, n, flip(all(486, true), 0), api.OK, want, api.OK)
		// The line feed behind a module counts, too.
		m := nd(api.NdModule, "M", nd(api.NdAssume, "", tuple(room+more-len("---- MODULE M ----\nASSUME \n====\n"))))
		expectErrors(t, m, all(486, true), want, want, api.OK)
		expectErrors(t, m, flip(all(486, true), 485), api.OK, want, api.OK)
		for _, x := range []api.Node{n, m} {
			if s, e := show.Full(x); e == api.OK && len(s) != api.MaxText {
				t.Errorf("%d bytes", len(s))
			}
		}
	}
}

// P4.2: the blanks ahead of items count.
func TestMostBytesOfLines(t *testing.T) {
	// Each of the lists stands two columns further to the right than the one around it.
	count := 0
	for n := junct(300); ; n = nd(api.NdPrefix, "-", n) {
		text, e := show.Full(n)
		if e != api.OK {
			break
		}
		count++
		if len(text) > api.MaxText {
			t.Fatalf("%d bytes", len(text))
		}
		// 300 items "/\ (a)" of 6 bytes, all in the column 1 + 2k, with -( ahead, ) behind each list, and line feeds.
		if k := count - 1; len(text) != 300*(6+2*k)+299+k {
			t.Fatalf("%d: %d bytes", k, len(text))
		}
	}
	if count != 163 {
		t.Errorf("%d texts", count)
	}
}

// P4.2: without parentheses, a tree may be read that is deeper than it may be.
func TestReadTooDeep(t *testing.T) {
	sum := func(terms int) api.Node {
		l := slices.Repeat([]api.Node{named("a")}, terms)
		for len(l) > 1 {
			var half []api.Node
			for i := 0; i+1 < len(l); i += 2 {
				half = append(half, nd(api.NdInfix, "+", l[i], l[i+1]))
			}
			l = append(half, l[2*len(half):]...)
		}
		return l[0]
	}
	for terms, want := range map[int]api.Errno{298: api.OK, 300: api.OK, 301: api.ErrLimit} {
		n := sum(terms)
		count := 2*terms - 2
		expectErrors(t, n, all(count, false), want, api.OK, api.OK)
		expectErrors(t, n, all(count, true), api.OK, api.OK, api.OK)
		// In a module, two nodes more stand around the sum.
		wantHere := want
		if terms == 300 {
			wantHere = api.ErrLimit
		}
		expectErrors(t, nd(api.NdModule, "M", nd(api.NdDefine, "A", n)), all(count, false), wantHere, api.OK, api.OK)
		if text := textOf(t, n); !isRead(text, n) {
			t.Errorf("Text of %d terms", terms)
		}
	}
}

// P4.2: a text that is not read at all is no error of With.
func TestTextsThatAreNotRead(t *testing.T) {
	for text, want := range map[string]string{"(a = b) = c": "a = b = c", "(-x)'": "-x'", "(a + b) * c": "a + b * c", `(A \X B) \X C`: `A \X B \X C`} {
		n := tree(t, text)
		if got := withOf(t, n, all(len(placesOf(t, n)), false)); got != want {
			t.Errorf("With of %q: %q, want %q", text, got, want)
		}
	}
}
