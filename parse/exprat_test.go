package parse_test

import (
	"math"
	"math/rand/v2"
	"slices"
	"testing"

	"foregone/api"
	"foregone/lex"
	"foregone/parse"
)

// P3.2

func TestExprAt(t *testing.T) {
	for _, x := range []struct {
		text     string
		from, at int
		want     string
	}{
		{"a", 0, 1, "a"}, {"a b", 0, 1, "a"}, {"a b", 1, 2, "b"}, {"a + b * c ; d", 0, 5, "+(a, *(b, c))"}, {"a + b * c ; d", 2, 5, "*(b, c)"}, {"x := a + 1 ;", 2, 5, "+(a, [1])"}, {"( a ) )", 0, 3, "a"}, {"a ) ( +", 0, 1, "a"}, {"a == b", 0, 1, "a"}, {"a : b", 0, 1, "a"}, {"f [ x ] := 1", 0, 4, "index(f, x)"}, {"f [ x ] . a b", 0, 6, "dot a(index(f, x))"}, {"a , b", 0, 1, "a"}, {"a THEN b", 0, 1, "a"}, {"a ----", 0, 1, "a"}, {"a ====", 0, 1, "a"}, {"a 1", 0, 1, "a"}, {"a \"s\"", 0, 1, "a"},
		{"{ a } }", 0, 3, "set(a)"}, {"~ a = b c", 0, 4, "pre ~(=(a, b))"}, {"IF a THEN b ELSE c else", 0, 6, "if(a, b, c)"}, {"CASE a -> b [] OTHER -> c [] d", 0, 8, "case(arm(a, b), arm#1(c))"}, {"[ A ]_ v ( x )", 0, 4, "square(A, v)"}, {"[ a |-> 1 ] |-> 2", 0, 5, "record(field a([1]))"}, {"M ! N ( x ) do", 0, 6, "qual(M, call N(x))"}, {"a ! b . c", 2, 5, "dot c(b)"},
		{"/\\ a\n/\\ b\nc", 0, 4, `list /\(a, b)`}, {"/\\ a\n/\\ b\nc", 1, 4, `/\(a, b)`}, {"  /\\ a\n  c", 0, 2, `list /\(a)`}, {"  /\\ a\n + c", 0, 4, `+(list /\(a), c)`}, {"  /\\ a\n /\\ c", 2, 4, `list /\(c)`},
	} {
		l := tokensOf(t, x.text)
		n, at, e := parse.ExprAt(l, x.from)
		if brief(n) != x.want || at != x.at || e != api.OK {
			t.Errorf("ExprAt(%q, %d): %s, %d at %d", x.text, x.from, brief(n), e, at)
		}
	}
}

func TestErrorsOfExprAt(t *testing.T) {
	for _, x := range []struct {
		text     string
		from, at int
		e        api.Errno
	}{
		{"", 0, 0, api.ErrParse}, {"a", 1, 1, api.ErrParse}, {"a +", 0, 2, api.ErrParse}, {"a + )", 0, 2, api.ErrParse}, {") a", 0, 0, api.ErrParse}, {"a = b = c", 0, 3, api.ErrPrec}, {"a = b = )", 0, 3, api.ErrPrec}, {"a = b = c", 2, 5, api.OK}, {"( a b", 0, 2, api.ErrParse}, {"f ( x , ) y", 0, 4, api.ErrParse}, {"x [] y '", 1, 3, api.ErrPrec}, {"; a", 0, 0, api.ErrParse}, {"/\\ a\n/\\ )", 0, 3, api.ErrParse}, {"/\\ ( a\n)", 0, 3, api.ErrParse}, {"LAMBDA x : x", 0, 0, api.ErrParse}, {"IF a THEN b", 0, 4, api.ErrParse}, {"a b", 3, 0, api.ErrArg}, {"a b", -1, 0, api.ErrArg}, {"a b", math.MaxInt, 0, api.ErrArg}, {"a b", math.MinInt, 0, api.ErrArg}, {"", 1, 0, api.ErrArg},
	} {
		n, at, e := parse.ExprAt(tokensOf(t, x.text), x.from)
		if isZero(n) != (x.e != api.OK) || at != x.at || e != x.e {
			t.Errorf("ExprAt(%q, %d): %s, %d at %d, want %d at %d", x.text, x.from, brief(n), e, at, x.e, x.at)
		}
	}
	for _, kind := range []int{0, 8, -1, math.MaxInt, math.MinInt} {
		for i := range 3 {
			l := tokensOf(t, "a b c")
			l[i].Kind = kind
			if n, at, e := parse.ExprAt(l, 1); !isZero(n) || at != 0 || e != api.ErrArg {
				t.Errorf("ExprAt with a token of the kind %d: %d at %d", kind, e, at)
			}
		}
	}
}

func TestDepthOfExprAt(t *testing.T) {
	not, a := api.Token{Kind: api.TkSign, S: "~"}, api.Token{Kind: api.TkName, S: "a"}
	for count, want := range map[int]api.Errno{299: api.OK, 300: api.ErrLimit, 50000: api.ErrLimit} {
		l := append([]api.Token{a, a}, slices.Repeat([]api.Token{not}, count)...)
		l = append(l, a, a)
		n, at, e := parse.ExprAt(l, 2)
		if end := map[bool]int{true: count + 3, false: 2}[want == api.OK]; e != want || at != end || isZero(n) != (e != api.OK) {
			t.Errorf("ExprAt with %d signs: %d at %d", count, e, at)
		}
		l[count+2] = not
		if _, at, e := parse.ExprAt(l[:count+3], 2); at != count+3 || e != api.ErrParse { // ahead of ErrLimit
			t.Errorf("ExprAt with %d signs, and no operand: %d at %d", count, e, at)
		}
	}
}

// TestFieldsOfTokens checks that ExprAt needs neither lines nor bytes, and is told lists by columns alone.
func TestFieldsOfTokens(t *testing.T) {
	for _, text := range []string{`{(x \in S) : x \in T}`, `{x \in S : f[x].a'}`, `[x \in S |-> (x)]`, "(a + b) * c", "a ! b"} {
		l := tokensOf(t, text)
		want, _, _ := parse.ExprAt(l, 0)
		for i := range l {
			l[i].At, l[i].End, l[i].Line, l[i].Col = 0, 0, 0, math.MinInt
		}
		n, at, e := parse.ExprAt(l, 0)
		if (e == api.OK) != !isZero(want) || !equal(n, parse.Bare(want)) || e == api.OK && at > len(l) {
			t.Errorf("ExprAt(%q) without places: %s, %d at %d", text, brief(n), e, at)
		}
	}
	l := tokensOf(t, "/\\ a\n/\\ b")
	for i := range l {
		l[i].Line = 7 - i
	}
	if n, at, e := parse.ExprAt(l, 0); brief(n) != `list /\(a, b)` || at != 4 || e != api.OK {
		t.Errorf("other lines: %s, %d at %d", brief(n), e, at)
	}
	for i := range l {
		l[i].Col = []int{-5, -4, -5, math.MaxInt}[i]
	}
	if n, at, e := parse.ExprAt(l, 0); brief(n) != `list /\(a, b)` || at != 4 || e != api.OK {
		t.Errorf("other columns: %s, %d at %d", brief(n), e, at)
	}
	l[3].Col = math.MinInt
	if n, at, e := parse.ExprAt(l, 0); !isZero(n) || at != 3 || e != api.ErrParse {
		t.Errorf("a token too far left: %s, %d at %d", brief(n), e, at)
	}
	l[0].At, l[0].End, l[1].At, l[1].End = -3, 9, math.MaxInt, math.MinInt
	if n, at, e := parse.ExprAt(l[:2], 0); n.At != -3 || n.End != math.MinInt || n.L[0].At != math.MaxInt || at != 2 || e != api.OK {
		t.Errorf("other bytes: %v, %d at %d", n, e, at)
	}
	number := api.Token{Kind: api.TkNumber, I: api.Int{Neg: true, D: []int{-1, 0}}}
	n, _, e := parse.ExprAt([]api.Token{number, {Kind: api.TkString, S: "\x00"}}, 0)
	number.I.D[0] = 5
	if n.Kind != api.NdNumber || !n.I.Neg || !slices.Equal(n.I.D, []int{-1, 0}) || e != api.OK {
		t.Errorf("a token with a number that is none: %v, %d", n, e)
	}
}

func TestSecondReaderAt(t *testing.T) {
	for seed := range uint64(3000) {
		text := spoilt(seed, randomExpr(seed, false))
		l, _, e := lex.Tokens(text)
		if e != api.OK {
			continue
		}
		for _, from := range []int{0, len(l) / 3, len(l) / 2, len(l)} {
			n, at, e := parse.ExprAt(l, from)
			m, b, f := readSecond(l, from, second.whole)
			if !equal(n, m) || at != b || e != f {
				t.Errorf("ExprAt(%q, %d): %s, %d at %d, the second reader: %s, %d at %d", text, from, brief(n), e, at, brief(m), f, b)
			}
		}
	}
}

// P3.12

func TestParts(t *testing.T) {
	source := rand.New(rand.NewPCG(35, 36))
	behind := tokensOf(t, `a ( ] ' + |-> ----  ==== "s" 1 [ /\ WF_ THEN`)
	for _, text := range goodExprs(t, 4000, false) {
		want, l := tree(t, text), tokensOf(t, text)
		if n, at, e := parse.ExprAt(l, 0); !equal(n, want) || at != len(l) || e != api.OK {
			t.Errorf("ExprAt(%q): %s, %d at %d", text, brief(n), e, at)
		}
		more := append(slices.Clone(l), api.Token{Kind: api.TkSign, S: ")", Col: source.IntN(20)})
		for range source.IntN(6) {
			token := behind[source.IntN(len(behind))]
			token.Col = source.IntN(20)
			more = append(more, token)
		}
		if n, at, e := parse.ExprAt(more, 0); !equal(n, want) || at != len(l) || e != api.OK {
			t.Errorf("ExprAt(%q, and more): %s, %d at %d", text, brief(n), e, at)
		}
	}
}
