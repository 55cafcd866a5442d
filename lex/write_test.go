package lex_test

import (
	"math"
	"slices"
	"strings"
	"testing"

	"foregone/api"
	"foregone/lex"
)

// P2.2

func TestSpell(t *testing.T) {
	for _, x := range []struct {
		token api.Token
		s     string
	}{
		{name("ab"), "ab"}, {word("WF_"), "WF_"}, {word("IF"), "IF"}, {sign(`/\`), `/\`}, {sign(">>_"), ">>_"}, {sign("_"), "_"}, {rule(), "----"}, {end(), "===="},
		{number(0), "0"}, {number(255), "255"}, {number(1000000001), "1000000001"},
		{text(""), `""`}, {text("a b"), `"a b"`}, {text("\"\\\t\n\f\r"), `"\"\\\t\n\f\r"`}, {text("(*~"), `"(*~"`},
		{api.Token{Kind: api.TkName, S: "a", At: -5, End: -7, Line: -1, Col: math.MinInt}, "a"},
	} {
		if s, e := lex.Spell(x.token); e != api.OK || s != x.s {
			t.Errorf("Spell(%v): %q %d", x.token, s, e)
		}
	}
	for _, token := range sampleTokens() {
		s, e := lex.Spell(token)
		if e != api.OK {
			t.Errorf("Spell(%v): %d", token, e)
		}
		expectTokens(t, s, token)
	}
}

func TestInvalidTokens(t *testing.T) {
	good := in(name("a"), 1, 1)
	for _, bad := range notTokens() {
		bad.Line, bad.Col = 1, 3
		if s, e := lex.Spell(bad); e != api.ErrToken || s != "" {
			t.Errorf("Spell(%v): %q %d", bad, s, e)
		}
		for _, l := range [][]api.Token{{bad, good}, {good, bad}} {
			if apart, e := lex.Apart(l[0], l[1]); e != api.ErrToken || apart {
				t.Errorf("Apart(%v): %v %d", l, apart, e)
			}
			if s, e := lex.Join(l); e != api.ErrToken || s != "" {
				t.Errorf("Join(%v): %q %d", l, s, e)
			}
			if s, e := lex.Place(l); e != api.ErrToken || s != "" {
				t.Errorf("Place(%v): %q %d", l, s, e)
			}
		}
	}
	many := append(slices.Repeat([]api.Token{good}, api.MaxTokens), sign("?"))
	if s, e := lex.Join(many); e != api.ErrToken || s != "" {
		t.Errorf("Join: %d", e)
	}
	if s, e := lex.Place(many); e != api.ErrToken || s != "" {
		t.Errorf("Place: %d", e)
	}
}

func TestApart(t *testing.T) {
	for _, x := range []struct {
		a, b api.Token
		want bool
	}{
		{name("a"), name("b"), true}, {name("a"), sign("+"), false}, {number(1), name("a"), true}, {number(1), number(2), true}, {sign("("), sign("*"), true}, {sign("("), sign("**"), true}, {sign("*"), sign(")"), false},
		{sign(`\`), sign("*"), true}, {sign(`\`), name("T"), false}, {sign(`\`), name("in"), true}, {sign(`\`), name("in_x"), true}, {sign(`\`), name("inx"), false}, {sign(`\`), name("b"), false}, {sign(`\`), name("b1"), true}, {sign(`\`), name("hf"), true},
		{sign(`\o`), number(1), true}, {sign(`\o`), sign("_"), false}, {sign(`\o`), name("_x"), false}, {word("WF_"), name("x"), false}, {word("WF_"), number(1), false}, {word("WF_"), word("SF_"), false}, {name("W"), name("F_"), true}, {name("x"), word("WF_"), true},
		{sign("_"), sign("_"), true}, {sign("_"), name("x"), true}, {sign("]"), sign("_"), true}, {sign("]_"), sign("_"), false}, {sign("]_"), name("x"), false}, {sign("--"), sign("--"), true}, {sign("--"), sign("-"), false}, {sign("--"), sign("->"), false},
		{rule(), sign("-"), true}, {rule(), rule(), true}, {rule(), sign("->"), true}, {rule(), end(), false}, {rule(), sign(">"), false}, {sign("=="), sign("=="), true}, {sign("=="), sign("=>"), false}, {end(), sign("="), true},
		{text("a"), text("b"), false}, {text("a"), name("b"), false}, {sign("/"), sign(`\`), true}, {sign(`/\`), sign("*"), false}, {sign("/"), sign(`\in`), true}, {sign("/"), sign("/"), true}, {sign("("), sign("+"), false}, {sign("("), sign("(+)"), false},
	} {
		if apart, e := lex.Apart(x.a, x.b); e != api.OK || apart != x.want {
			t.Errorf("Apart(%v, %v): %v %d", x.a, x.b, apart, e)
		}
	}
}

func spellingOf(t *testing.T, token api.Token) string {
	t.Helper()
	s, e := lex.Spell(token)
	if e != api.OK {
		t.Fatalf("Spell(%v): %d", token, e)
	}
	return s
}

// readAs reports whether a text has tokens that are like those of a list.
func readAs(s string, want []api.Token) bool {
	l, _, e := reference(s)
	return e == api.OK && allAlike(l, want)
}

func TestAllPairs(t *testing.T) {
	all := sampleTokens()
	for _, a := range all {
		for _, b := range all {
			apart, e := lex.Apart(a, b)
			s, t2 := spellingOf(t, a), spellingOf(t, b)
			if want := !readAs(s+t2, []api.Token{a, b}); e != api.OK || apart != want {
				t.Errorf("Apart(%v, %v): %v %d", a, b, apart, e)
			}
			joined, e := lex.Join([]api.Token{a, b})
			if want := map[bool]string{false: s + t2, true: s + " " + t2}[apart]; e != api.OK || joined != want {
				t.Errorf("Join(%v, %v): %q %d", a, b, joined, e)
			}
		}
	}
}

// joined returns tokens as Join is to join them, each time with the whole text read.
func joined(t *testing.T, l []api.Token) string {
	t.Helper()
	whole := ""
	for i, token := range l {
		s := spellingOf(t, token)
		if !readAs(whole+s, l[:i+1]) {
			whole += " "
		}
		whole += s
	}
	return whole
}

func TestJoin(t *testing.T) {
	for _, x := range []struct {
		l []api.Token
		s string
	}{
		{nil, ""}, {[]api.Token{}, ""}, {[]api.Token{sign("+")}, "+"},
		{[]api.Token{sign("("), sign("+"), sign(")")}, "(+ )"}, {[]api.Token{name("a"), name("b"), sign("="), sign("=")}, "a b= ="},
		{[]api.Token{sign("--"), sign("-"), sign("-")}, "--- -"}, {[]api.Token{sign("=="), sign("="), sign("=>")}, "=== =>"}, {[]api.Token{sign("=="), sign("="), sign("=")}, "=== ="},
		{[]api.Token{sign("--"), sign("-"), rule()}, "--- ----"}, {[]api.Token{sign("|-"), sign("--"), sign("-"), sign("-|")}, "|---- -|"}, {[]api.Token{sign("..."), sign("."), sign("."), sign("."), sign(".")}, ".... . . ."},
		{[]api.Token{word("WF_"), sign("_"), sign("_")}, "WF__ _"}, {[]api.Token{sign(`\`), name("b"), number(1)}, `\b 1`}, {[]api.Token{sign("("), sign("*"), sign("*"), sign(")")}, "( * *)"},
		{[]api.Token{text("a"), text("\n"), name("b"), number(12), sign(".")}, `"a""\n"b 12.`}, {[]api.Token{sign("("), sign("."), sign("."), sign(")")}, "(. .)"}, {[]api.Token{sign(`\`), word("WF_"), name("x"), word("WF_")}, `\WF_x WF_`},
	} {
		if s, e := lex.Join(x.l); e != api.OK || s != x.s {
			t.Errorf("Join(%s): %q %d, want %q", describe(x.l), s, e, x.s)
		}
	}
	for _, l := range randomTokens(6000, 12) {
		if s, e := lex.Join(l); e != api.OK || s != joined(t, l) {
			t.Errorf("Join(%s): %q %d, want %q", describe(l), s, e, joined(t, l))
		}
	}
}

func TestLimitsOfJoin(t *testing.T) {
	const count = api.MaxTokens
	if s, e := lex.Join(slices.Repeat([]api.Token{name("a")}, count)); e != api.OK || s != strings.Repeat("a ", count-1)+"a" {
		t.Errorf("Join: %d bytes, %d", len(s), e)
	}
	if s, e := lex.Join(slices.Repeat([]api.Token{sign("(")}, count)); e != api.OK || s != strings.Repeat("(", count) {
		t.Errorf("Join: %d bytes, %d", len(s), e)
	}
	if s, e := lex.Join(slices.Repeat([]api.Token{sign("(")}, count+1)); e != api.ErrLimit || s != "" {
		t.Errorf("Join: %d bytes, %d", len(s), e)
	}
	hundred := slices.Repeat([]api.Token{text(strings.Repeat("s", 198))}, 500) // 200 bytes each
	if s, e := lex.Join(hundred); e != api.OK || len(s) != api.MaxText {
		t.Errorf("Join: %d bytes, %d", len(s), e)
	}
	if s, e := lex.Join(append(hundred, sign("+"))); e != api.ErrLimit || s != "" {
		t.Errorf("Join: %d bytes, %d", len(s), e)
	}
}

func TestPlace(t *testing.T) {
	for _, x := range []struct {
		l []api.Token
		s string
		e api.Errno
	}{
		{nil, "", api.OK}, {[]api.Token{}, "", api.OK}, {[]api.Token{in(name("a"), 1, 1)}, "a", api.OK},
		{[]api.Token{in(name("a"), 2, 3), in(sign("+"), 2, 4)}, "\n  a+", api.OK}, {[]api.Token{in(name("a"), 1, 1), in(name("b"), 1, 2)}, "", api.ErrPlace},
		{[]api.Token{in(name("a"), 1, 5), in(name("b"), 3, 1), in(rule(), 3, 9)}, "    a\n\nb       ----", api.OK},
		{[]api.Token{in(name("abc"), 1, 1), in(sign("+"), 1, 3)}, "", api.ErrPlace}, {[]api.Token{in(name("abc"), 1, 1), in(sign("+"), 1, 4)}, "abc+", api.OK},
		{[]api.Token{in(name("a"), 2, 1), in(name("b"), 1, 9)}, "", api.ErrPlace}, {[]api.Token{in(name("a"), 1, 9), in(name("b"), 1, 1)}, "", api.ErrPlace},
		{[]api.Token{name("a")}, "", api.ErrPlace}, {[]api.Token{in(name("a"), 1, 0)}, "", api.ErrPlace}, {[]api.Token{in(name("a"), 0, 1)}, "", api.ErrPlace}, {[]api.Token{in(name("a"), -1, -1)}, "", api.ErrPlace},
		{[]api.Token{in(sign("("), 1, 1), in(sign("*"), 1, 2)}, "", api.ErrPlace}, {[]api.Token{in(sign("("), 1, 1), in(sign("*"), 1, 3)}, "( *", api.OK}, {[]api.Token{in(sign("<="), 1, 1), in(sign(">"), 1, 3)}, "", api.ErrPlace},
		{[]api.Token{in(text("\"\n\t"), 1, 1), in(name("a"), 1, 9)}, `"\"\n\t"a`, api.OK}, {[]api.Token{in(text("\""), 1, 1), in(name("a"), 1, 4)}, "", api.ErrPlace},
		{[]api.Token{in(number(255), 1, 2), in(word("IF"), 1, 6)}, " 255 IF", api.OK}, {[]api.Token{in(word("WF_"), 1, 1), in(name("x"), 1, 4)}, "WF_x", api.OK}, {[]api.Token{in(sign(`\`), 1, 1), in(sign("*"), 1, 2), in(sign("*"), 2, 1)}, "", api.ErrPlace},
	} {
		if s, e := lex.Place(x.l); e != x.e || s != x.s {
			t.Errorf("Place(%v): %q %d, want %q %d", x.l, s, e, x.s, x.e)
		}
	}
}

func TestLimitsOfPlace(t *testing.T) {
	const most, huge = api.MaxText, math.MaxInt
	for _, x := range []struct {
		why string
		l   []api.Token
		n   int
		e   api.Errno
	}{
		{"the last column", []api.Token{in(name("a"), 1, most)}, most, api.OK}, {"one more", []api.Token{in(name("a"), 1, most+1)}, 0, api.ErrLimit}, {"an end too far", []api.Token{in(name("ab"), 1, most)}, 0, api.ErrLimit},
		{"the last line", []api.Token{in(name("a"), most, 1)}, most, api.OK}, {"one more", []api.Token{in(name("a"), most+1, 1)}, 0, api.ErrLimit}, {"both", []api.Token{in(name("a"), most, 2)}, 0, api.ErrLimit},
		{"huge", []api.Token{in(name("a"), huge, huge)}, 0, api.ErrLimit}, {"a huge line", []api.Token{in(name("a"), huge, 1), in(name("b"), huge, 9)}, 0, api.ErrLimit}, {"huge columns", []api.Token{in(name("a"), 1, huge), in(name("b"), 2, huge), in(name("c"), 3, huge)}, 0, api.ErrLimit},
		{"a sum that is no int", []api.Token{in(name("abc"), huge, 1)}, 0, api.ErrLimit}, {"a sum that is no int", []api.Token{in(name("abc"), 1, huge)}, 0, api.ErrLimit},
		{"too long, but not read so", []api.Token{in(name("a"), 1, 1), in(name("b"), 1, 2), in(name("c"), 2, most)}, 0, api.ErrLimit}, {"too long, but in no order", []api.Token{in(name("a"), 1, most+1), in(name("b"), 1, 1)}, 0, api.ErrPlace},
		{"too long, but one within another", []api.Token{in(name("ab"), 1, huge-1), in(name("b"), 1, huge)}, 0, api.ErrPlace}, {"too long, but no line", []api.Token{in(name("a"), 0, huge)}, 0, api.ErrPlace}, {"huge, and no column", []api.Token{in(name("a"), huge, math.MinInt)}, 0, api.ErrPlace},
		{"too long, one behind the other", []api.Token{in(name("ab"), 1, huge-2), in(name("b"), 1, huge)}, 0, api.ErrLimit},
	} {
		if s, e := lex.Place(x.l); e != x.e || len(s) != x.n {
			t.Errorf("%s: %d bytes, %d, want %d, %d", x.why, len(s), e, x.n, x.e)
		}
	}
	l := slices.Repeat([]api.Token{sign("(")}, api.MaxTokens+1)
	if s, e := lex.Place(l); e != api.ErrLimit || s != "" { // ahead of ErrPlace
		t.Errorf("Place: %d bytes, %d", len(s), e)
	}
	for i := range l {
		l[i].Line, l[i].Col = 1, i+1
	}
	if s, e := lex.Place(l[:api.MaxTokens]); e != api.OK || s != strings.Repeat("(", api.MaxTokens) {
		t.Errorf("Place: %d bytes, %d", len(s), e)
	}
}

// TestPlaceOfRandomTokens compares with the definition: the text in which the spellings stand there, if it is read so.
func TestPlaceOfRandomTokens(t *testing.T) {
	placed := 0
	for i, l := range randomTokens(6000, 6) {
		line, col := 1, 1
		var b strings.Builder
		for k := range l {
			if (i+k)%5 == 0 {
				b.WriteByte('\n')
				line, col = line+1, 1
			}
			gap := (i >> (k % 8)) % 2
			b.WriteString(strings.Repeat(" ", gap))
			col += gap
			l[k].Line, l[k].Col = line, col
			s := spellingOf(t, l[k])
			b.WriteString(s)
			col += len(s)
		}
		want, e := b.String(), api.OK
		if !readAs(want, l) {
			want, e = "", api.ErrPlace
		} else {
			placed++
		}
		if s, f := lex.Place(l); s != want || f != e {
			t.Errorf("Place(%s): %q %d, want %q %d", describe(l), s, f, want, e)
		}
	}
	if placed < 1000 {
		t.Errorf("only %d lists have a place", placed)
	}
}

func TestStrip(t *testing.T) {
	for _, x := range [][2]string{
		{"", ""}, {"a", "a"}, {"a(*b*)c", "a     c"}, {"(**)", "    "}, {"a \\* b\nc", "a     \nc"}, {"a\\*\tb\r\nc", "a  \t  \nc"}, {"(*\n\t(*\r*)|*)a", "  \n\t        a"},
		{`"(* *)" (*"*)`, `"(* *)"      `}, {"\\*\x80\x00", "    "}, {`/\*a`, `/\*a`}, {"(*a*)(*b*)\\*", strings.Repeat(" ", 12)},
	} {
		if s, e := lex.Strip(x[0]); e != api.OK || s != x[1] {
			t.Errorf("Strip(%q): %q %d, want %q", x[0], s, e, x[1])
		}
	}
	for s, want := range map[string]api.Errno{
		"(**) a ?": api.ErrChar, `(**)"`: api.ErrQuote, "a (*": api.ErrComment, `\b2`: api.ErrDigits, strings.Repeat("n", 41): api.ErrLong,
		strings.Repeat(" ", api.MaxText+1): api.ErrLimit, strings.Repeat("a ", api.MaxTokens+1): api.ErrLimit,
	} {
		if s, e := lex.Strip(s); e != want || s != "" {
			t.Errorf("Strip: %q %d, want %d", s, e, want)
		}
	}
}
