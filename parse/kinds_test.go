package parse_test

import (
	"math/rand/v2"
	"slices"
	"strconv"
	"strings"
	"testing"

	"foregone/api"
	"foregone/parse"
)

// P3.2: tokens whose kind and text do not go together

// otherKind returns tokens of which the one at i, a sign or a reserved word, has the kind of the other ones; false if it is neither.
func otherKind(l []api.Token, i int) ([]api.Token, bool) {
	l = slices.Clone(l)
	switch l[i].Kind {
	case api.TkSign:
		l[i].Kind = api.TkKey
	case api.TkKey:
		l[i].Kind = api.TkSign
	default:
		return nil, false
	}
	return l, true
}

// TestOtherKinds checks that the text of a sign is no sign in a token of the kind of reserved words, and the other way round, wherever the grammar has one.
func TestOtherKinds(t *testing.T) {
	for _, x := range []struct{ text, want string }{ // what ExprAt returns if the token has the other kind: - for names and the like; the index, with ! for ErrParse
		{"a + b", "- 1 -"}, {`a /\ b`, "- 1 -"}, {`S \X T \X U`, "- 1 - 3 -"}, {"~ a", "0! -"}, {"a = - b", "- 1 2! -"}, {"ENABLED a", "0! -"}, {"~ DOMAIN f", "0! 1! -"}, {"[] a", "0! -"}, {"a '", "- 1"}, {"r . b", "- 1 -"}, {"f [ 1 , 2 ]", "- 1 - 3! - 5!"},
		{"TRUE", "0!"}, {"a + BOOLEAN", "- 1 2!"}, {"STRING", "0!"}, {"@", "0!"}, {"( a )", "0! - 2!"}, {"M ! N", "- 1 -"}, {"f ( a , b )", "- 1 - 3! - 5!"}, {"f ( + , - )", "- 1 2! 2! 4! 5!"}, {"f ( * )", "- 1 2! 2!"}, {"f ( LAMBDA x , y : x )", "- 1 2! - 4! - 6! - 8!"},
		{"/\\ a\n/\\ b", "0! - 2 -"}, {"\\/ a\n\\/ b", "0! - 2 -"}, {`\A x , y \in S : x`, "0! - 2! - 4! - 6! -"}, {`\E << x >> \in S : x`, "0! 1! - 3! 4! - 6! -"}, {`CHOOSE x \in S : x`, "0! - 2! - 4! -"},
		{"IF a THEN b ELSE c", "0! - 2! - 4! -"}, {"CASE a -> b [] c -> d [] OTHER -> e", "0! - 2! - 4 - 6! - 8 9! 10! -"}, {"LET x == a f ( y ) == b IN x", "0! - 2! - - 5! - 7! 8! - 10! -"}, {"LET a (+) b == c g [ y \\in S ] == y IN x", "0! - 2! - 4! - - 7! - 9! - 11! 12! - 14! -"},
		{"{ }", "0! 1!"}, {"{ a , b }", "0! - 2! - 4!"}, {`{ x \in S : x }`, "0! - 2! - 4! - 6!"}, {`{ x : y \in S }`, "0! - 2! - 4! - 6!"}, {"<< >>", "0! 1!"}, {"<< a , b >>", "0! - 2! - 4!"}, {"<< a >>_ v", "0! - 2! -"}, {"<< a >>_ << v >>", "0! - 2! 3! - 5!"}, {"<< a >>_ ( v )", "0! - 2! 3! - 5!"}, {"[ a ]_ M ! v", "0! - 2! - 4 -"}, {"WF_ v ( a )", "0! - 2! - 4!"}, {"SF_ v ( a )", "0! - 2! - 4!"},
		{"[ x |-> a , y |-> b ]", "0! - 2! - 4! - 6! - 8!"}, {"[ x : S , y : T ]", "0! - 2! - 4! - 6! - 8!"}, {`[ x \in S |-> x ]`, "0! - 2! - 4! - 6!"}, {`[ x , y \in S |-> x ]`, "0! - 2! - 4! - 2! - 8!"}, {"[ S -> T ]", "0! - 2! - 4!"}, {"[ f EXCEPT ! [ 1 ] . a = @ , ! . b = 2 ]", "0! - 2! 3! 4! - 6! 7! - 9! 10! 11! 12! 13! - 15! - 17!"},
	} {
		l := tokensOf(t, x.text)
		for i, want := range strings.Fields(x.want) {
			other, ok := otherKind(l, i)
			if ok != (want != "-") {
				t.Errorf("%q: the token %d", x.text, i)
			}
			if !ok {
				continue
			}
			n, at, e := parse.ExprAt(other, 0)
			got := strconv.Itoa(at)
			if e == api.ErrParse {
				got += "!"
			}
			if got != want || e != api.OK && e != api.ErrParse || isZero(n) != (e != api.OK) {
				t.Errorf("ExprAt(%q, 0) with another kind of the token %d: %s, %d at %d, want %s", x.text, i, brief(n), e, at, want)
			}
		}
		if len(strings.Fields(x.want)) != len(l) {
			t.Errorf("%q has %d tokens", x.text, len(l))
		}
	}
}

// TestOtherKindOfEachWord checks that every sign and reserved word with the other kind begins no expression, and ends the one ahead of it.
func TestOtherKindOfEachWord(t *testing.T) {
	a, plus := api.Token{Kind: api.TkName, S: "a"}, api.Token{Kind: api.TkSign, S: "+"}
	for s, kind := range kindOfWord {
		other, _ := otherKind([]api.Token{{Kind: kind, S: s}, a}, 0)
		for _, x := range []struct {
			ahead []api.Token
			at    int
			e     api.Errno
		}{
			{nil, 0, api.ErrParse}, {[]api.Token{a}, 1, api.OK}, {[]api.Token{a, plus}, 2, api.ErrParse},
		} {
			n, at, e := parse.ExprAt(append(slices.Clone(x.ahead), other...), 0)
			if at != x.at || e != x.e || isZero(n) != (e != api.OK) {
				t.Errorf("ExprAt of %d tokens and %q with the other kind: %s, %d at %d", len(x.ahead), s, brief(n), e, at)
			}
		}
	}
}

// TestUnknownWords checks that signs and reserved words that are none, and other spellings of signs, cannot be read.
func TestUnknownWords(t *testing.T) {
	a := api.Token{Kind: api.TkName, S: "a"}
	for _, s := range []string{"", "a", "A", "if", "IF ", "TRUEX", "WF", `\land`, `\`, "=<", "---", "(*", " +", "\x00", "\xc3\x84"} {
		for _, kind := range []int{api.TkSign, api.TkKey} {
			word := api.Token{Kind: kind, S: s}
			if n, at, e := parse.ExprAt([]api.Token{word, a}, 0); !isZero(n) || at != 0 || e != api.ErrParse {
				t.Errorf("ExprAt of %q with the kind %d: %s, %d at %d", s, kind, brief(n), e, at)
			}
			end := 1
			if kindOfWord[s] == kind {
				end = 3
			}
			if _, at, e := parse.ExprAt([]api.Token{a, word, a}, 0); at != end || e != api.OK {
				t.Errorf("ExprAt of a and %q with the kind %d: %d at %d", s, kind, e, at)
			}
		}
	}
}

// TestOtherKindsAtRandom compares with the second reader, and checks that nothing behind a token with the other kind is read.
func TestOtherKindsAtRandom(t *testing.T) {
	source := rand.New(rand.NewPCG(37, 38))
	for _, text := range goodExprs(t, 3000, false) {
		l := tokensOf(t, text)
		i := source.IntN(len(l))
		other, ok := otherKind(l, i)
		if !ok {
			continue
		}
		n, at, e := parse.ExprAt(other, 0)
		m, b, f := readSecond(other, 0, second.whole)
		if !equal(n, m) || at != b || e != f || at > i {
			t.Errorf("ExprAt(%q, 0) with another kind of the token %d: %s, %d at %d, the second reader: %s, %d at %d", text, i, brief(n), e, at, brief(m), f, b)
		}
		other[i].S = ""
		if m, b, f := parse.ExprAt(other, 0); !equal(n, m) || at != b || e != f {
			t.Errorf("ExprAt(%q, 0) with another kind of the token %d: %s, %d at %d, without its text: %s, %d at %d", text, i, brief(n), e, at, brief(m), f, b)
		}
	}
}
