package parse_test

import (
	"slices"
	"testing"

	"foregone/api"
	"foregone/lex"
	"foregone/parse"
)

// P3.2

func TestTables(t *testing.T) {
	if len(prefixTable) != 9 || len(infixTable) != 57 {
		t.Fatalf("%d prefix and %d infix operators", len(prefixTable), len(infixTable))
	}
	other := []string{"", " ", "+ ", " +", "= #", "+ -", "ENABLED UNCHANGED", "?", "a", "'", "1", "~ ", "enabled", "$$$", "----", "===="}
	for _, s := range slices.Concat(lex.Signs(), lex.Words(), other) {
		want, is := prefixTable[s]
		if p, ok := parse.Prefix(s); ok != is || p != (api.Prec{Lo: want.lo, Hi: want.hi}) {
			t.Errorf("Prefix(%q): %v %v", s, p, ok)
		}
		want, is = infixTable[s]
		if p, ok := parse.Infix(s); ok != is || p != (api.Prec{Lo: want.lo, Hi: want.hi, Left: want.left}) {
			t.Errorf("Infix(%q): %v %v", s, p, ok)
		}
		if is := parse.Definable(s); is != want.definable {
			t.Errorf("Definable(%q): %v", s, is)
		}
	}
}

// P3.7

func TestPairsOfInfixOperators(t *testing.T) {
	for _, p := range infixSigns {
		for _, q := range infixSigns {
			text := "a " + p + " b " + q + " c"
			one, two := "a "+p+" b", "b "+q+" c"
			r, s := infixTable[p], infixTable[q]
			n, at, e := parse.Expr(text)
			switch {
			case p == `\X` && q == `\X`:
				if brief(n) != "product(a, b, c)" {
					t.Errorf("%q: %s", text, brief(n))
				}
			case r.lo > s.hi || p == q && r.left:
				if !parse.Same(n, tree(t, "("+one+") "+q+" c")) || at != 0 || e != api.OK {
					t.Errorf("%q: %s, %d at %d", text, brief(n), e, at)
				}
			case r.hi < s.lo:
				if !parse.Same(n, tree(t, "a "+p+" ("+two+")")) || at != 0 || e != api.OK {
					t.Errorf("%q: %s, %d at %d", text, brief(n), e, at)
				}
			default:
				expectError(t, text, len(one)+1, api.ErrPrec)
			}
		}
	}
}

func TestPrefixAheadOfInfix(t *testing.T) {
	for _, p := range prefixSigns {
		r := prefixTable[p]
		for _, q := range infixSigns {
			s := infixTable[q]
			text := p + " a " + q + " b"
			n, at, e := parse.Expr(text)
			switch {
			case r.lo > s.hi:
				if !parse.Same(n, tree(t, "("+p+" a) "+q+" b")) || e != api.OK {
					t.Errorf("%q: %s, %d at %d", text, brief(n), e, at)
				}
			case r.hi < s.lo:
				if !parse.Same(n, tree(t, p+" (a "+q+" b)")) || e != api.OK {
					t.Errorf("%q: %s, %d at %d", text, brief(n), e, at)
				}
			default:
				expectError(t, text, len(p)+3, api.ErrPrec)
			}
			behind := "a " + q + " " + p + " b" // a prefix operator may stand wherever an operand may begin
			if n := tree(t, behind); !parse.Same(n, tree(t, "a "+q+" ("+p+" b)")) {
				t.Errorf("%q: %s", behind, brief(n))
			}
		}
		for _, q := range prefixSigns {
			if n := tree(t, p+" "+q+" a"); !parse.Same(n, tree(t, p+" ("+q+" a)")) {
				t.Errorf("%s %s a: %s", p, q, brief(n))
			}
		}
		if r.hi < 15 {
			expectExpr(t, p+" a'", "pre "+p+"(prime(a))")
		} else {
			expectError(t, p+" a'", len(p)+2, api.ErrPrec)
		}
	}
	for _, q := range infixSigns {
		if n := tree(t, "a "+q+" b'"); !parse.Same(n, tree(t, "a "+q+" (b')")) {
			t.Errorf("a %s b': %s", q, brief(n))
		}
		if n := tree(t, "a' "+q+" b"); !parse.Same(n, tree(t, "(a') "+q+" b")) {
			t.Errorf("a' %s b: %s", q, brief(n))
		}
	}
}

// TestThreeOperators compares with the second reader, which is told the ranges by the chapter's tables.
func TestThreeOperators(t *testing.T) {
	few := []string{"=>", "~>", `/\`, "=", `\cdot`, "@@", ":>", `\cup`, `\`, "..", "$", "+", "%", `\X`, "-", "*", "^"}
	for _, p := range few {
		for _, q := range few {
			for _, r := range few {
				compareExpr(t, "a "+p+" b "+q+" c "+r+" d")
			}
			for prefix := range prefixTable {
				compareExpr(t, "a "+p+" "+prefix+" b "+q+" c")
				compareExpr(t, prefix+" a "+p+" b "+q+" c'")
			}
		}
	}
}
