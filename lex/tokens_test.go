package lex_test

import (
	"slices"
	"strings"
	"testing"

	"foregone/api"
	"foregone/lex"
)

// P2.1

func TestExamples(t *testing.T) {
	want := []api.Token{
		{Kind: api.TkName, S: "x", At: 0, End: 1, Line: 1, Col: 1}, {Kind: api.TkSign, S: "'", At: 1, End: 2, Line: 1, Col: 2},
		{Kind: api.TkSign, S: "=", At: 3, End: 4, Line: 1, Col: 4}, {Kind: api.TkName, S: "x", At: 5, End: 6, Line: 1, Col: 6},
		{Kind: api.TkSign, S: "+", At: 7, End: 8, Line: 1, Col: 8}, {Kind: api.TkNumber, I: api.Int{D: []int{10}}, At: 9, End: 11, Line: 1, Col: 10},
	}
	if l := tokensOf(t, "x' = x + 10"); !slices.EqualFunc(l, want, identical) {
		t.Errorf("%v", l)
	}
	want = []api.Token{
		in(sign(`/\`), 1, 1), in(name("a"), 1, 4),
		in(sign(`/\`), 2, 9), in(word("WF_"), 2, 15), in(name("v"), 2, 18), in(sign("("), 2, 19), in(name("_x"), 2, 20), in(sign(")"), 2, 22),
	}
	if l := tokensOf(t, "/\\ a\n\t\\land WF_v(_x)"); !slices.EqualFunc(l, want, placedAlike) {
		t.Errorf("%v", l)
	}
	expectTokens(t, "[A]_v", sign("["), name("A"), sign("]_"), name("v"))
	expectTokens(t, `S\T`, name("S"), sign(`\`), name("T"))
	expectTokens(t, "1..3", number(1), sign(".."), number(3))
	expectTokens(t, "(+)1 (*(*)*) *)2", sign("(+)"), number(1), number(2))
	expectTokens(t, `\hFF \o17 \b101 \oplus \o x`, number(255), number(15), number(5), sign("(+)"), sign(`\o`), name("x"))
	expectError(t, "a __", 2, api.ErrChar)
	expectError(t, `"a`, 0, api.ErrQuote)
	expectError(t, "(* (* *)", 0, api.ErrComment)
	expectError(t, `\b12`, 0, api.ErrDigits)
	expectTokens(t, "a ?? b", name("a"), sign("??"), name("b"))
	expectError(t, "a ? b", 2, api.ErrChar)
}

func TestEmptyTexts(t *testing.T) {
	for _, s := range []string{"", " ", "\n", "\r\n\t ", "(**)", "\\*", "\\*\n", "\\* a", "(* \" *)\n\\* \x80 |", "(*\\* *)"} {
		expectTokens(t, s)
	}
}

func TestRuns(t *testing.T) {
	long := strings.Repeat("n", 40)
	expectTokens(t, "a _a a_ a1 1a 0_a _1a A_b_", name("a"), name("_a"), name("a_"), name("a1"), name("1a"), name("0_a"), name("_1a"), name("A_b_"))
	expectTokens(t, "_", sign("_"))
	expectTokens(t, "_ _", sign("_"), sign("_"))
	expectTokens(t, "IF If if IF_ _IF IFx IF1 MODULE", word("IF"), name("If"), name("if"), name("IF_"), name("_IF"), name("IFx"), name("IF1"), word("MODULE"))
	expectTokens(t, "WF_ SF_ WF SF xWF_ 1SF_ wf_", word("WF_"), word("SF_"), name("WF"), name("SF"), name("xWF_"), name("1SF_"), name("wf_"))
	expectTokens(t, "WF_x SF_12 WF__ SF__y", word("WF_"), name("x"), word("SF_"), number(12), word("WF_"), sign("_"), word("SF_"), name("_y"))
	expectTokens(t, "WF_SF_WF_IF SF_1a WF_<<a>>", word("WF_"), word("SF_"), word("WF_"), word("IF"), word("SF_"), name("1a"), word("WF_"), sign("<<"), name("a"), sign(">>"))
	expectTokens(t, `WF_\in SF_"a" WF_(*a*)b`, word("WF_"), sign(`\in`), word("SF_"), text("a"), word("WF_"), name("b"))
	expectTokens(t, long+" WF_"+long, name(long), word("WF_"), name(long))
	for _, s := range keywords {
		expectTokens(t, s, word(s))
	}
	for _, s := range []string{"__", "_1", "1_", "1_2", "_1_", "___"} {
		expectError(t, s, 0, api.ErrChar)
		expectError(t, " WF_"+s, 4, api.ErrChar)
	}
	expectError(t, "a+"+long+"n", 2, api.ErrLong)
	expectError(t, " WF_"+long+"n", 4, api.ErrLong)
	expectError(t, strings.Repeat("1", 40)+"n", 0, api.ErrLong)
}

func TestDecimalNumbers(t *testing.T) {
	most := strings.Repeat("9", 360)
	all := slices.Repeat([]int{999999999}, 40)
	expectTokens(t, "0 00 007 10 1000000000", number(0), number(0), number(7), number(10), number(1000000000))
	expectTokens(t, "12.3", number(12), sign("."), number(3))
	expectTokens(t, most, api.Token{Kind: api.TkNumber, I: api.Int{D: all}})
	expectTokens(t, strings.Repeat("0", 5000)+most, api.Token{Kind: api.TkNumber, I: api.Int{D: all}})
	expectTokens(t, strings.Repeat("0", 5000), number(0))
	expectError(t, "a 1"+strings.Repeat("0", 360), 2, api.ErrDigits)
	expectError(t, "a "+strings.Repeat("9", 99998), 2, api.ErrDigits)
	expectError(t, "SF_0"+most+"9", 3, api.ErrDigits)
}

func TestNumbersToBases(t *testing.T) {
	expectTokens(t, `\b0 \B1 \o7 \O10 \h9 \HfF \ha \Hbad`, number(0), number(1), number(7), number(8), number(9), number(255), number(10), number(0xbad))
	expectTokens(t, `\b0001 \o007 \h0e`, number(1), number(7), number(14))
	expectTokens(t, `\b \o \oh \bx`, sign(`\`), name("b"), sign(`\o`), sign(`\`), name("oh"), sign(`\`), name("bx"))
	expectTokens(t, `\h \hg \h_ \o_1x`, sign(`\`), name("h"), sign(`\`), name("hg"), sign(`\`), name("h_"), sign(`\o`), name("_1x"))
	expectTokens(t, `a\b1`, name("a"), number(1))
	for _, s := range []string{`\b2`, `\b9`, `\b12`, `\b1a`, `\b1_`, `\o8`, `\o9`, `\o78`, `\o7a`, `\o1_1`, `\hag`, `\h1g`, `\hf_`, `\Hello`, `\B1WF_`} {
		expectError(t, s, 0, api.ErrDigits)
		expectError(t, "ab "+s+" c", 3, api.ErrDigits)
	}
	expectError(t, `\h1`+strings.Repeat("0", 300), 0, api.ErrDigits)
	expectError(t, ` \b1`+strings.Repeat("0", 1196), 1, api.ErrDigits)
	expectError(t, `\o`+strings.Repeat("7", 90000), 0, api.ErrDigits)
	zeros := strings.Repeat("0", 9000)
	expectTokens(t, `\b`+zeros+`11 \o`+zeros+`10 \h`+zeros+`10`, number(3), number(8), number(16))
}

func TestStrings(t *testing.T) {
	long := strings.Repeat("s", 200)
	expectTokens(t, `"" "a" "a""b"`, text(""), text("a"), text("a"), text("b"))
	expectTokens(t, `"\"" "\\" "\t\n\f\r" "\\n"`, text(`"`), text(`\`), text("\t\n\f\r"), text(`\n`))
	expectTokens(t, `"(*" "\\* a" " ~!"`, text("(*"), text(`\* a`), text(" ~!"))
	expectTokens(t, `"`+long+`"`, text(long))
	expectTokens(t, `"`+strings.Repeat(`\"`, 200)+`"`, text(strings.Repeat(`"`, 200)))
	for _, s := range []string{`"`, `"a`, "\"a\n\"", `"\`, `"\"`, `"\a"`, `"\B"`, "\"\\\n\"", "\"\t\"", "\"\x7f\"", "\"\x1f\"", "\"\x80\"", "\"\x00\"", "\"\r\"", `"` + long + `s"`, `"` + long, `"` + strings.Repeat(`\\`, 201) + `"`} {
		expectError(t, s, 0, api.ErrQuote)
		expectError(t, "a (* b *)"+s, 9, api.ErrQuote)
	}
	expectError(t, `"a" "`, 4, api.ErrQuote)
}

func TestComments(t *testing.T) {
	expectTokens(t, "a(**)b", name("a"), name("b"))
	expectTokens(t, `a\*b`+"\nc", name("a"), name("c"))
	expectTokens(t, "a\\* (*\nc\\**)", name("a"), name("c"))
	expectTokens(t, "(*\\* *)a(*\"*)b", name("a"), name("b"))
	expectTokens(t, "(*(*(**)*)*)a", name("a"))
	expectTokens(t, "(* ( * ) *)a", name("a"))
	expectTokens(t, "*)", sign("*"), sign(")"))
	expectTokens(t, "((**)*(**))", sign("("), sign("*"), sign(")"))
	expectTokens(t, `/\*a`, sign(`/\`), sign("*"), name("a")) // read from left to right: no comment begins within a token
	expectTokens(t, `\/*a`, sign(`\/`), sign("*"), name("a"))
	expectTokens(t, "(***)a(****)b", name("a"), name("b"))
	expectTokens(t, "(*\x80\x00*)\\*\xff")
	for _, s := range []string{"(*", "(*)", "(* *", "(*(**)", "(*(*)*)", "(*\n\n", "(* \\* *", "(*(*(*"} {
		expectError(t, s, 0, api.ErrComment)
		expectError(t, "(**)a\n"+s, 6, api.ErrComment)
	}
	expectError(t, "a (* (* *)", 2, api.ErrComment)
	expectTokens(t, strings.Repeat("(*", 20000)+strings.Repeat("*)", 20000)+"a", name("a"))
	expectError(t, "  "+strings.Repeat("(*", 20000)+strings.Repeat("*)", 19999), 2, api.ErrComment)
}

func TestRulesAndCloses(t *testing.T) {
	expectTokens(t, "---- ----- ==== =======", rule(), rule(), end(), end())
	expectTokens(t, "--- -- - === == =", sign("--"), sign("-"), sign("--"), sign("-"), sign("=="), sign("="), sign("=="), sign("="))
	expectTokens(t, "---->a", rule(), sign(">"), name("a"))
	expectTokens(t, "--->a", sign("--"), sign("->"), name("a"))
	expectTokens(t, "====>", end(), sign(">"))
	expectTokens(t, "===>", sign("=="), sign("=>"))
	expectTokens(t, "|-----", sign("|-"), rule())
	expectTokens(t, "|----", sign("|-"), sign("--"), sign("-"))
	expectTokens(t, "----====", rule(), end())
	expectTokens(t, ":====", sign(":="), sign("=="), sign("="))
	expectTokens(t, "----MODULE a----", rule(), word("MODULE"), name("a"), rule())
	l := tokensOf(t, " ------")
	if len(l) != 1 || l[0].At != 1 || l[0].End != 7 {
		t.Errorf("%v", l)
	}
}

func TestEachSign(t *testing.T) {
	if len(signRows) != 89 {
		t.Fatalf("%d signs", len(signRows))
	}
	for _, row := range signRows {
		for _, s := range row {
			expectTokens(t, s, sign(row[0]))
			expectTokens(t, "a "+s+" b", name("a"), sign(row[0]), name("b"))
			if n := lex.Kind(s); n != api.TkSign {
				t.Errorf("Kind(%q): %d", s, n)
			}
			if c := lex.Canon(s); c != row[0] {
				t.Errorf("Canon(%q): %q", s, c)
			}
		}
	}
}

func TestTheLongestSign(t *testing.T) {
	expectTokens(t, "<=><=<<-><", sign("<=>"), sign("<="), sign("<<"), sign("->"), sign("<"))
	expectTokens(t, "|->|-|-|||", sign("|->"), sign("|-"), sign("|-"), sign("||"), sign("|"))
	expectTokens(t, ">>>>_>>=]_][][]]__", sign(">>"), sign(">>_"), sign(">>"), sign("="), sign("]_"), sign("]"), sign("[]"), sign("[]"), sign("]_"), sign("_"))
	expectTokens(t, ".......(.)..)", sign("..."), sign("..."), sign("."), sign("(.)"), sign(".."), sign(")"))
	expectTokens(t, "=<>/==#=<", sign("<="), sign(">"), sign("#"), sign("="), sign("#"), sign("<="))
	expectTokens(t, `\inx \in1 \in_x \In \i`, sign(`\`), name("inx"), sign(`\in`), number(1), sign(`\in`), name("_x"), sign(`\`), name("In"), sign(`\`), name("i"))
	expectTokens(t, `\x\\//\\/`, sign(`\`), name("x"), sign(`\`), sign(`\/`), sign(`/\`), sign(`\/`))
	expectTokens(t, `\AAA\AA\A\E`, sign(`\`), name("AAA"), sign(`\AA`), sign(`\A`), sign(`\E`))
	expectTokens(t, "a@@b:>c:=d==e", name("a"), sign("@@"), name("b"), sign(":>"), name("c"), sign(":="), name("d"), sign("=="), name("e"))
	for _, s := range []string{"?", "`", "\x00", "\x07", "\f", "\v", "\x7f", "\x80", "\xc2\xa0", "\xe2\x88\xa7"} {
		expectError(t, s, 0, api.ErrChar)
		expectError(t, "a+\n"+s, 3, api.ErrChar)
	}
	expectError(t, "???", 2, api.ErrChar)
}

func TestLinesAndColumns(t *testing.T) {
	source := "a\tb\n\n\t\tc       \td\te\r\nf\n1234567\tg 12345678\th(*\t\n\t*)i"
	want := [][2]int{{1, 1}, {1, 9}, {3, 17}, {3, 33}, {3, 41}, {4, 1}, {5, 1}, {5, 9}, {5, 11}, {5, 25}, {6, 11}}
	l := tokensOf(t, source)
	if len(l) != len(want) {
		t.Fatalf("%v", l)
	}
	for i, token := range l {
		if token.Line != want[i][0] || token.Col != want[i][1] {
			t.Errorf("%v, want %v", token, want[i])
		}
	}
}

func TestLimits(t *testing.T) {
	const size, count = api.MaxText, api.MaxTokens
	expectError(t, strings.Repeat(" ", size+1), 0, api.ErrLimit)
	expectError(t, "?"+strings.Repeat(" ", size), 0, api.ErrLimit) // ahead of all else
	expectTokens(t, strings.Repeat(" ", size-1)+"a", name("a"))
	if l := tokensOf(t, strings.Repeat("a ", count)); len(l) != count {
		t.Errorf("%d tokens", len(l))
	}
	expectError(t, strings.Repeat("a ", count)+"a", 0, api.ErrLimit)
	expectError(t, strings.Repeat("a ", count)+"a?", 2*count+1, api.ErrChar) // the error of the text comes first
	expectError(t, strings.Repeat("(", size), 0, api.ErrLimit)
	expectError(t, strings.Repeat("WF_", size/3), 0, api.ErrLimit)
	expectError(t, strings.Repeat(`\`, size), 0, api.ErrLimit)
	if l := tokensOf(t, strings.Repeat("-", size)); len(l) != 1 || l[0].Kind != api.TkRule || l[0].End != size {
		t.Errorf("%v", l)
	}
}

func TestRandomTexts(t *testing.T) {
	seen := map[api.Errno]int{}
	for _, s := range randomTexts(20000) {
		want, at, e := reference(s)
		l, a, f := lex.Tokens(s)
		if f != e || a != at || !slices.EqualFunc(l, want, identical) {
			t.Errorf("Tokens(%q): %v, %d at %d, want %v, %d at %d", s, l, f, a, want, e, at)
		}
		seen[e]++
	}
	for _, e := range []api.Errno{api.OK, api.ErrChar, api.ErrQuote, api.ErrComment, api.ErrDigits, api.ErrLong} {
		if seen[e] < 10 {
			t.Errorf("only %d texts with the error %d", seen[e], e)
		}
	}
}

func TestKind(t *testing.T) {
	for _, x := range []struct {
		s string
		n int
	}{
		{"WF_", api.TkKey}, {"WF_x", 0}, {"----", api.TkRule}, {"---", 0}, {`"\n"`, api.TkString}, {"", 0}, {" ", 0}, {" a", 0}, {"a ", 0}, {"a", api.TkName}, {"a(**)", 0}, {"(**)a", 0}, {"a\\*", 0}, {"(**)", 0},
		{"12", api.TkNumber}, {"007", api.TkNumber}, {`\hFF`, api.TkNumber}, {`\b2`, 0}, {"1a", api.TkName}, {"a b", 0}, {"__", 0}, {"_", api.TkSign}, {"IF", api.TkKey}, {`"`, 0}, {"=======", api.TkClose}, {"?", 0},
		{"--", api.TkSign}, {`\land`, api.TkSign}, {`\lan`, 0}, {strings.Repeat("n", 40), api.TkName}, {strings.Repeat("n", 41), 0}, {"a\n", 0}, {"SF_", api.TkKey}, {"WF", api.TkName},
		{strings.Repeat("=", api.MaxText+1), api.TkClose}, {strings.Repeat("a ", api.MaxText), 0},
	} {
		if n := lex.Kind(x.s); n != x.n {
			t.Errorf("Kind(%.40q): %d, want %d", x.s, n, x.n)
		}
	}
}

func TestCanon(t *testing.T) {
	for _, x := range [][2]string{{`\leq`, "<="}, {"=<", "<="}, {"<=", "<="}, {"leq", ""}, {"", ""}, {" ", ""}, {`\`, `\`}, {"_", "_"}, {"a", ""}, {"IF", ""}, {"----", ""}, {"1", ""}, {`\Land`, ""}, {`\land `, ""}, {"?", ""}, {"WF_", ""}} {
		if s := lex.Canon(x[0]); s != x[1] {
			t.Errorf("Canon(%q): %q", x[0], s)
		}
	}
}

func TestLists(t *testing.T) {
	if l := lex.Words(); !slices.Equal(l, slices.Sorted(slices.Values(keywords))) || len(l) != 35 {
		t.Errorf("Words: %d %v", len(l), l)
	}
	var want []string
	for s := range firstOf {
		want = append(want, s)
	}
	slices.Sort(want)
	l := lex.Signs()
	if !slices.Equal(l, want) {
		t.Errorf("Signs: %v", l)
	}
	l[0] = "a" // the list is new memory
	lex.Words()[0] = "a"
	if !slices.Equal(lex.Signs(), want) || lex.Words()[0] != "ASSUME" {
		t.Error("a list has been changed")
	}
}
