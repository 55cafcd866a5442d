package lex_test

import (
	"fmt"
	"math/rand/v2"
	"slices"
	"strings"
	"testing"

	"foregone/api"
	"foregone/lex"
)

func sameInt(a, b api.Int) bool { return a.Neg == b.Neg && slices.Equal(a.D, b.D) }

// alike reports whether tokens are the same, but for their places.
func alike(a, b api.Token) bool { return a.Kind == b.Kind && a.S == b.S && sameInt(a.I, b.I) }

// identical reports whether tokens are the same.
func identical(a, b api.Token) bool {
	return alike(a, b) && a.At == b.At && a.End == b.End && a.Line == b.Line && a.Col == b.Col
}

// placedAlike reports whether tokens are alike and stand in the same line and column.
func placedAlike(a, b api.Token) bool { return alike(a, b) && a.Line == b.Line && a.Col == b.Col }

func allAlike(a, b []api.Token) bool { return slices.EqualFunc(a, b, alike) }

func name(s string) api.Token { return api.Token{Kind: api.TkName, S: s} }
func word(s string) api.Token { return api.Token{Kind: api.TkKey, S: s} }
func sign(s string) api.Token { return api.Token{Kind: api.TkSign, S: s} }
func text(s string) api.Token { return api.Token{Kind: api.TkString, S: s} }
func rule() api.Token         { return api.Token{Kind: api.TkRule} }
func end() api.Token          { return api.Token{Kind: api.TkClose} }

func number(n int) api.Token {
	t := api.Token{Kind: api.TkNumber}
	for ; n > 0; n /= api.Base {
		t.I.D = append(t.I.D, n%api.Base)
	}
	return t
}

// in returns a token in a line and a column.
func in(t api.Token, line, col int) api.Token {
	t.Line, t.Col = line, col
	return t
}

// tokensOf returns the tokens of a text without an error.
func tokensOf(t *testing.T, text string) []api.Token {
	t.Helper()
	l, at, e := lex.Tokens(text)
	if e != api.OK || at != 0 {
		t.Fatalf("Tokens(%q): %d at %d", text, e, at)
	}
	return l
}

// expectError checks that a text has an error at a byte.
func expectError(t *testing.T, text string, at int, e api.Errno) {
	t.Helper()
	if l, a, f := lex.Tokens(text); len(l) != 0 || a != at || f != e {
		t.Errorf("Tokens(%.60q): %d tokens, %d at %d, want %d at %d", text, len(l), f, a, e, at)
	}
}

// expectTokens checks that a text has tokens that are like those of a list, and that the second reader says so, too.
func expectTokens(t *testing.T, text string, want ...api.Token) {
	t.Helper()
	l, at, e := lex.Tokens(text)
	if e != api.OK || at != 0 || !allAlike(l, want) {
		t.Errorf("Tokens(%.60q): %v, %d at %d, want %v", text, l, e, at, want)
	}
	second, _, e := reference(text)
	if e != api.OK || !slices.EqualFunc(l, second, identical) {
		t.Errorf("Tokens(%.60q): %v, want %v", text, l, second)
	}
}

// sampleTokens returns valid tokens of all kinds: each sign, each reserved word, and names, numbers and strings that could be taken for something else with their neighbours.
func sampleTokens() []api.Token {
	list := []api.Token{rule(), end()}
	for _, row := range signRows {
		list = append(list, sign(row[0]))
	}
	for _, s := range keywords {
		list = append(list, word(s))
	}
	for _, s := range []string{"a", "b", "b1", "h", "hf", "hello", "o", "o7", "in", "in1", "in_x", "A", "E", "X", "cup", "_x", "1a", "W", "F_", "xWF_", "SF", "land", "x_", strings.Repeat("n", 40)} {
		list = append(list, name(s))
	}
	for _, n := range []int{0, 1, 7, 10, 1000000000} {
		list = append(list, number(n))
	}
	for _, s := range []string{"", "a", "(*", `\`, `"`, "\t\n\f\r", " ~", strings.Repeat("s", 200)} {
		list = append(list, text(s))
	}
	return list
}

// notTokens returns a token of each sort that is not valid.
func notTokens() []api.Token {
	one, none := api.Int{D: []int{1}}, api.Int{D: []int{0}}
	list := []api.Token{
		{}, {Kind: 8}, {Kind: -1}, {Kind: 8, S: "a"},
		name(""), name("1"), name("_"), name("__"), name("IF"), name("WF_"), name("WF_x"), name("SF_1"), name("a b"), name(" a"), name("a "), name("a(**)"), name("a-"), name(`\in`), name("\xc3\xa9"), name(strings.Repeat("n", 41)),
		word(""), word("if"), word("a"), word("WF"), word("WF_x"), word("IF "), word("+"),
		sign(""), sign("a"), sign(`\land`), sign("=<"), sign("/="), sign(`\times`), sign("?"), sign("+ "), sign("----"), sign("===="), sign(`\i`), sign("IF"),
		text("\x00"), text("\x1f"), text("\x7f"), text("\x80"), text("\x0b"), text(strings.Repeat("s", 201)),
		{Kind: api.TkNumber, S: "1"}, {Kind: api.TkNumber, S: "1", I: one}, {Kind: api.TkNumber, I: none},
		{Kind: api.TkNumber, I: api.Int{Neg: true, D: []int{1}}}, {Kind: api.TkNumber, I: api.Int{Neg: true}}, {Kind: api.TkNumber, I: api.Int{D: slices.Repeat([]int{1}, 41)}},
		{Kind: api.TkRule, S: "----"}, {Kind: api.TkClose, S: "===="},
	}
	for _, t := range []api.Token{name("a"), text("a"), word("IF"), sign("+"), rule(), end()} {
		for _, i := range []api.Int{one, none, {Neg: true}, {Neg: true, D: []int{1}}} {
			bad := t
			bad.I = i
			list = append(list, bad)
		}
	}
	return list
}

// pieces returns what random texts are made of; those with an error come last.
func pieces() (good, bad []string) {
	good = []string{" ", " ", " ", "\n", "\t", "\r", "  ", "\n\n", "\n\t ", "(**)", "(* a *)", "(*(*)*)*)", "(* \t\n*)", "\\* b \t|\n", "\\*\n", "\\* (*\n", "(*\\* *)"}
	for sign := range firstOf {
		good = append(good, sign)
	}
	slices.Sort(good)
	good = append(good, keywords...)
	good = append(good, "a", "b", "x", "_x", "1a", "x1", "WF_x", "SF__y", "WF_WF_", "in", "land", "ab_c", "f", "0", "007", "10", "999999999999999999999", `\b101`, `\o17`, `\hFf`, `\H0`, `"a"`, `""`, `"(*"`, `"\\\""`, `"\t\n\f\r"`, "----", "-----", "====", "======", "---", "===", "(", "*", ")", "/", `\`, "-", "=", "<", ">")
	bad = []string{"__", "1_", `"`, "?", "`", "(*", `\b2`, `\o1_`, `\hg`, `\hag`, `"\a"`, "\"\t\"", "\x80", "\x00", "\f", strings.Repeat("n", 41), strings.Repeat("9", 361), `"` + strings.Repeat("s", 201) + `"`}
	return good, bad
}

// randomTexts returns texts (always the same), some of which have errors.
func randomTexts(count int) []string {
	source := rand.New(rand.NewPCG(21, 22))
	good, bad := pieces()
	var list []string
	for range count {
		var b strings.Builder
		blanks := source.IntN(3) // how many blanks there are between pieces
		for range source.IntN(14) {
			if source.IntN(60) == 0 {
				b.WriteString(bad[source.IntN(len(bad))])
			} else {
				b.WriteString(good[source.IntN(len(good))])
			}
			if source.IntN(3) < blanks {
				b.WriteByte(" \n\t"[source.IntN(3)])
			}
		}
		list = append(list, b.String())
	}
	return list
}

// goodTexts returns random texts without errors, and such as the chapter names.
func goodTexts(t *testing.T, count int) []string {
	t.Helper()
	list := []string{"", "a", "\n", "x' = x + 10", "/\\ a\n\t\\land WF_v(_x)", "a(*b*)c", "---- MODULE M ----\nx == 1\n====\n", "a\t(*\t*)\tb \\* c"}
	for _, s := range randomTexts(count) {
		if _, _, e := lex.Tokens(s); e == api.OK {
			list = append(list, s)
		}
	}
	if len(list) < count/4 {
		t.Fatalf("only %d of %d texts have no error", len(list), count)
	}
	return list
}

// randomTokens returns lists of valid tokens (always the same).
func randomTokens(count, length int) [][]api.Token {
	source := rand.New(rand.NewPCG(23, 24))
	all := sampleTokens()
	few := []api.Token{sign("-"), sign("--"), sign("->"), sign("="), sign("=="), sign("=>"), sign("("), sign("*"), sign("**"), sign(")"), sign("+"), sign("."), sign(".."), sign("..."), sign("|"), sign("|-"), sign("<"), sign(">"), sign(">>"), sign(">>_"), sign("_"), sign("]_"), sign("/"), sign(`\`), sign(`\/`), sign(`/\`), sign(`\o`), name("b"), name("o"), name("h"), name("in"), number(1), word("WF_"), rule(), end()}
	var list [][]api.Token
	for i := range count {
		from := all
		if i%2 == 0 {
			from = few
		}
		var l []api.Token
		for range source.IntN(length + 1) {
			l = append(l, from[source.IntN(len(from))])
		}
		list = append(list, l)
	}
	return list
}

func describe(l []api.Token) string {
	var b strings.Builder
	for _, t := range l {
		fmt.Fprintf(&b, "[%d %q %v]", t.Kind, t.S, t.I.D)
	}
	return b.String()
}
