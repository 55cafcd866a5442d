package lex_test

import (
	"math/big"
	"math/rand/v2"
	"slices"
	"strings"
	"testing"

	"foregone/api"
	"foregone/lex"
)

// P2.4

func TestBack(t *testing.T) {
	lists := randomTokens(3000, 10)
	for _, s := range goodTexts(t, 2000) {
		lists = append(lists, tokensOf(t, s))
	}
	for _, l := range lists {
		s, e := lex.Join(l)
		if e != api.OK {
			t.Errorf("Join(%s): %d", describe(l), e)
			continue
		}
		back := tokensOf(t, s)
		if !allAlike(back, l) {
			t.Errorf("Join(%s): %q", describe(l), s)
		}
		for i := 1; i < len(back); i++ {
			gap := back[i].At - back[i-1].End
			if gap > 1 {
				t.Errorf("Join(%s): %q", describe(l), s)
			}
			if gap == 0 {
				continue
			}
			shorter := s[:back[i-1].End] + s[back[i].At:]
			if less, _, e := lex.Tokens(shorter); e == api.OK && allAlike(less, l) {
				t.Errorf("%q is shorter than %q", shorter, s)
			}
		}
	}
}

// P2.5

func TestPlaceOfTexts(t *testing.T) {
	moved := 0
	for _, s := range goodTexts(t, 8000) {
		l := tokensOf(t, s)
		asSpelled := true
		for _, token := range l {
			asSpelled = asSpelled && s[token.At:token.End] == spellingOf(t, token)
		}
		placed, e := lex.Place(l)
		if e == api.ErrPlace && !asSpelled {
			moved++
			continue
		}
		if e != api.OK || !slices.EqualFunc(tokensOf(t, placed), l, placedAlike) {
			t.Errorf("Place of the tokens of %q: %q %d", s, placed, e)
		}
		if strings.Trim(placed, "\n ") != strings.TrimLeft(placed, "\n ") {
			t.Errorf("Place of the tokens of %q: %q", s, placed)
		}
	}
	if moved == 0 {
		t.Error("no text without a place")
	}
}

// P2.6

func TestStripOfTexts(t *testing.T) {
	for _, s := range goodTexts(t, 8000) {
		stripped, e := lex.Strip(s)
		if e != api.OK || len(stripped) != len(s) {
			t.Errorf("Strip(%q): %q %d", s, stripped, e)
			continue
		}
		l := tokensOf(t, s)
		if !slices.EqualFunc(tokensOf(t, stripped), l, identical) {
			t.Errorf("Strip(%q): %q", s, stripped)
		}
		for _, gap := range gaps(stripped, l) {
			if strings.Trim(gap, " \t\n\r") != "" {
				t.Errorf("Strip(%q): %q", s, stripped)
			}
		}
	}
}

// gaps returns what stands ahead of the tokens of a text, between them, and behind the last one.
func gaps(s string, l []api.Token) []string {
	var list []string
	end := 0
	for _, token := range l {
		list = append(list, s[end:token.At])
		end = token.End
	}
	return append(list, s[end:])
}

// P2.7

func TestWithin(t *testing.T) {
	for _, s := range goodTexts(t, 6000) {
		l := tokensOf(t, s)
		end := 0
		for _, token := range l {
			if token.At < end || token.End <= token.At {
				t.Errorf("%q: %v", s, token)
			}
			end = token.End
			own := s[token.At:token.End]
			alone := tokensOf(t, own)
			if len(alone) != 1 || !alike(alone[0], token) || alone[0].At != 0 || alone[0].End != len(own) || lex.Kind(own) != token.Kind {
				t.Errorf("%q: %v, alone %v", s, token, alone)
			}
			if line, col, e := lex.Locate(s, token.At); e != api.OK || line != token.Line || col != token.Col {
				t.Errorf("%q: %v at %d %d", s, token, line, col)
			}
		}
		for _, gap := range gaps(s, l) {
			if len(tokensOf(t, gap)) != 0 {
				t.Errorf("%q: %q between tokens", s, gap)
			}
		}
	}
}

// P2.8

func TestOtherSpellings(t *testing.T) {
	for _, s := range goodTexts(t, 3000) {
		l := tokensOf(t, s)
		for _, token := range l {
			if token.Kind != api.TkSign {
				continue
			}
			for spelling, first := range firstOf {
				if first != token.S {
					continue
				}
				other := s[:token.At] + " " + spelling + " " + s[token.End:]
				if !allAlike(tokensOf(t, other), l) {
					t.Errorf("%q: other tokens than %q", other, s)
				}
			}
		}
	}
}

// P2.9

func TestErrorsStay(t *testing.T) {
	texts := randomTexts(8000)
	failed := 0
	for i, s := range texts {
		_, at, e := lex.Tokens(s)
		if e == api.OK {
			continue
		}
		failed++
		if _, _, ahead := lex.Tokens(s[:at]); ahead != api.OK {
			t.Errorf("%q, up to the byte %d: %d", s, at, ahead)
		}
		if e == api.ErrComment {
			continue
		}
		cut, _, _ := strings.Cut(s[at:], "\n")
		for _, more := range []string{"", "*)", `"`, texts[(i+1)%len(texts)]} {
			expectError(t, s[:at]+cut+"\n"+more, at, e)
		}
	}
	if failed < 500 {
		t.Errorf("only %d texts have an error", failed)
	}
	expectTokens(t, "a (* b\n*)", name("a")) // the error of a comment is taken away
}

// P2.10

func TestTogether(t *testing.T) {
	texts := goodTexts(t, 4000)
	for i, s := range texts {
		next := texts[(i*7+1)%len(texts)]
		want := tokensOf(t, s)
		for _, token := range tokensOf(t, next) {
			token.At += len(s) + 1
			token.End += len(s) + 1
			token.Line += strings.Count(s, "\n") + 1
			want = append(want, token)
		}
		if l := tokensOf(t, s+"\n"+next); !slices.EqualFunc(l, want, identical) {
			t.Errorf("%q and %q: %v", s, next, l)
		}
	}
}

// P2.12

func TestNumbersOfAllBases(t *testing.T) {
	source := rand.New(rand.NewPCG(25, 26))
	for range 3000 {
		digits := 1 + source.IntN(20)
		if source.IntN(8) == 0 {
			digits = 1 + source.IntN(1210)
		}
		for base, starts := range map[int][]string{2: {`\b`, `\B`}, 8: {`\o`, `\O`}, 16: {`\h`, `\H`}, 10: {""}} {
			written := ""
			for range digits {
				written += string("0123456789abcdef"[source.IntN(base)])
			}
			if source.IntN(2) == 0 {
				written = strings.ToUpper(written)
			}
			n, _ := new(big.Int).SetString(written, base)
			s := starts[source.IntN(len(starts))] + written
			if n.Cmp(bound) >= 0 {
				expectError(t, s, 0, api.ErrDigits)
				continue
			}
			token := api.Token{Kind: api.TkNumber, I: fromBig(n)}
			expectTokens(t, s, token)
			if spelling := spellingOf(t, token); spelling != n.String() {
				t.Errorf("the spelling of %v: %q", n, spelling)
			}
		}
	}
	for _, x := range []struct {
		start string
		base  int
	}{{`\b`, 2}, {`\o`, 8}, {`\h`, 16}, {"", 10}} { // at the limit
		most := new(big.Int).Sub(bound, big.NewInt(1))
		expectTokens(t, x.start+"0"+most.Text(x.base), api.Token{Kind: api.TkNumber, I: fromBig(most)})
		expectError(t, x.start+"0"+bound.Text(x.base), 0, api.ErrDigits)
	}
}

// P2.13

func TestBlanksAndComments(t *testing.T) {
	between := []string{" ", "\t", "\n", "\r", " \n", "(**)", "(*(* a *)\n*)", " \\* b\n", "\n\\*\n", " (*\\* *)\t"}
	source := rand.New(rand.NewPCG(27, 28))
	for _, s := range goodTexts(t, 6000) {
		l := tokensOf(t, s)
		var b strings.Builder
		for i, gap := range gaps(s, l) {
			b.WriteString(between[source.IntN(len(between))])
			if gap != "" && source.IntN(2) == 0 {
				b.WriteString(gap + "\n") // a comment may go up to the end of the line
			}
			if i < len(l) {
				b.WriteString(s[l[i].At:l[i].End])
			}
		}
		if more := tokensOf(t, b.String()); !allAlike(more, l) {
			t.Errorf("%q and %q have other tokens", b.String(), s)
		}
	}
}

// Calls change no argument, and what they have returned stays as it is.

func TestPurity(t *testing.T) {
	s := `a "b" 12 \* c`
	first := tokensOf(t, s)
	first[2].I.D[0] = 99
	first[0].S = "z"
	expectTokens(t, s, name("a"), text("b"), number(12))
	l := []api.Token{in(number(1000000000), 1, 1), in(name("a"), 1, 12)}
	kept := []api.Token{in(number(1000000000), 1, 1), in(name("a"), 1, 12)}
	lex.Join(l)
	lex.Place(l)
	lex.Apart(l[0], l[1])
	lex.Spell(l[0])
	if !slices.EqualFunc(l, kept, identical) {
		t.Errorf("%v", l)
	}
}
