package lex_test

import (
	"math/big"
	"regexp"
	"slices"
	"strings"

	"foregone/api"
)

// The tests compare with a second reader, which follows the chapter's rules by regular expressions and math/big.

// rowsOfSigns are the rows of signs as the chapter writes them.
const rowsOfSigns = "`/\\` `\\land`; `\\/` `\\lor`; `~` `\\lnot` `\\neg`; `=>`; `<=>` `\\equiv`; `=`; `#` `/=`; `<`; `>`; `<=` `=<` `\\leq`; `>=` `\\geq`;" +
	"`+`; `-`; `*`; `/`; `%`; `^`; `\\div`; `@@`; `:>`; `\\cup` `\\union`; `\\cap` `\\intersect`; `\\`; `\\X` `\\times`; `\\o` `\\circ`; `\\in`; `\\notin`; `\\subseteq`; `\\supseteq`;" +
	"`\\A`; `\\E`; `\\AA`; `\\EE`; `[]`; `<>`; `~>`; `\\cdot`;" +
	"`(+)` `\\oplus`; `(-)` `\\ominus`; `(.)` `\\odot`; `\\sqsubseteq`; `\\sqcup`; `\\sqcap`; `\\prec`; `\\succ`; `\\sim`; `\\star`; `\\bullet`; `++`; `--`; `**`; `//`; `||`; `&`; `&&`; `$`; `$$`; `??`; `%%`; `##`; `^^`"

const signsWithOneSpelling = "( ) [ ] { } << >> ]_ >>_ , : ; . _ ! @ ' == |-> -> <- := .. ... | |- -|"

const wordsOfTheChapter = "ASSUME ASSUMPTION AXIOM BOOLEAN CASE CHOOSE CONSTANT CONSTANTS DOMAIN ELSE ENABLED EXCEPT EXTENDS FALSE IF IN INSTANCE LAMBDA LET LOCAL MODULE OTHER RECURSIVE SF_ STRING SUBSET THEN THEOREM TRUE UNCHANGED UNION VARIABLE VARIABLES WF_ WITH"

var (
	signRows  = readRows()
	firstOf   = firstSpellings()
	plainOnes = plainSpellings()
	keywords  = strings.Fields(wordsOfTheChapter)

	passedForm  = regexp.MustCompile(`^(?:[\t\n\r ]+|\\\*[^\n]*)`)
	runForm     = regexp.MustCompile(`^[A-Za-z0-9_]+`)
	digitsForm  = regexp.MustCompile(`^[0-9]+$`)
	letterForm  = regexp.MustCompile(`[A-Za-z]`)
	basedForm   = regexp.MustCompile(`^\\(?:[bBoO][0-9]|[hH][0-9A-Fa-f])[A-Za-z0-9_]*`)
	stringForm  = regexp.MustCompile(`^"(?:[ !#-\[\]-~]|\\["\\tnfr])*"`)
	ruleForm    = regexp.MustCompile(`^----+`)
	closeForm   = regexp.MustCompile(`^====+`)
	lettersForm = regexp.MustCompile(`^\\[A-Za-z]+`)
)

func readRows() [][]string {
	var rows [][]string
	for _, sign := range strings.Fields(signsWithOneSpelling) {
		rows = append(rows, []string{sign})
	}
	quoted := regexp.MustCompile("`([^`]+)`")
	for _, part := range regexp.MustCompile("`;").Split(rowsOfSigns, -1) {
		var row []string
		for _, m := range quoted.FindAllStringSubmatch(strings.TrimSuffix(part, "`")+"`", -1) {
			row = append(row, m[1])
		}
		rows = append(rows, row)
	}
	return rows
}

func firstSpellings() map[string]string {
	first := map[string]string{}
	for _, row := range signRows {
		for _, sign := range row {
			first[sign] = row[0]
		}
	}
	return first
}

// plainSpellings returns the spellings without letters, the longest ones first.
func plainSpellings() []string {
	var list []string
	for sign := range firstOf {
		if !letterForm.MatchString(sign) {
			list = append(list, sign)
		}
	}
	slices.SortFunc(list, func(a, b string) int { return len(b) - len(a) })
	return list
}

// reference reads a text by the chapter's rules; the limits of a text are not looked at.
func reference(text string) ([]api.Token, int, api.Errno) {
	var tokens []api.Token
	for at := 0; at < len(text); {
		rest := text[at:]
		if n := len(passedForm.FindString(rest)); n > 0 {
			at += n
			continue
		}
		if strings.HasPrefix(rest, "(*") {
			n := lengthOfComment(rest)
			if n == 0 {
				return nil, at, api.ErrComment
			}
			at += n
			continue
		}
		t, n, e := referenceToken(rest)
		if e != api.OK {
			return nil, at, e
		}
		t.At, t.End = at, at+n
		t.Line, t.Col = lineAndColumn(text, at)
		tokens = append(tokens, t)
		at += n
	}
	return tokens, 0, api.OK
}

// lengthOfComment returns the length of the comment with which s begins; 0 if it is not closed.
func lengthOfComment(s string) int {
	n := 2
	for n < len(s) {
		switch {
		case strings.HasPrefix(s[n:], "*)"):
			return n + 2
		case strings.HasPrefix(s[n:], "(*"):
			inner := lengthOfComment(s[n:])
			if inner == 0 {
				return 0
			}
			n += inner
		default:
			n++
		}
	}
	return 0
}

func referenceToken(rest string) (api.Token, int, api.Errno) {
	if run := runForm.FindString(rest); run != "" {
		return referenceRun(run)
	}
	if s := basedForm.FindString(rest); s != "" {
		return referenceNumber(s[2:], map[string]int{"b": 2, "o": 8, "h": 16}[strings.ToLower(s[1:2])], len(s))
	}
	if rest[0] == '"' {
		return referenceString(stringForm.FindString(rest))
	}
	if s := ruleForm.FindString(rest); s != "" {
		return api.Token{Kind: api.TkRule}, len(s), api.OK
	}
	if s := closeForm.FindString(rest); s != "" {
		return api.Token{Kind: api.TkClose}, len(s), api.OK
	}
	if s := lettersForm.FindString(rest); firstOf[s] != "" {
		return api.Token{Kind: api.TkSign, S: firstOf[s]}, len(s), api.OK
	}
	for _, sign := range plainOnes {
		if strings.HasPrefix(rest, sign) {
			return api.Token{Kind: api.TkSign, S: firstOf[sign]}, len(sign), api.OK
		}
	}
	return api.Token{}, 0, api.ErrChar
}

func referenceString(quoted string) (api.Token, int, api.Errno) {
	if quoted == "" {
		return api.Token{}, 0, api.ErrQuote
	}
	escapes := strings.NewReplacer(`\"`, `"`, `\\`, `\`, `\t`, "\t", `\n`, "\n", `\f`, "\f", `\r`, "\r")
	s := escapes.Replace(quoted[1 : len(quoted)-1])
	if len(s) > 200 {
		return api.Token{}, 0, api.ErrQuote
	}
	return api.Token{Kind: api.TkString, S: s}, len(quoted), api.OK
}

func referenceRun(run string) (api.Token, int, api.Errno) {
	switch {
	case digitsForm.MatchString(run):
		return referenceNumber(run, 10, len(run))
	case strings.HasPrefix(run, "WF_") || strings.HasPrefix(run, "SF_"):
		return api.Token{Kind: api.TkKey, S: run[:3]}, 3, api.OK
	case run == "_":
		return api.Token{Kind: api.TkSign, S: "_"}, 1, api.OK
	case slices.Contains(keywords, run):
		return api.Token{Kind: api.TkKey, S: run}, len(run), api.OK
	case !letterForm.MatchString(run):
		return api.Token{}, 0, api.ErrChar
	case len(run) > 40:
		return api.Token{}, 0, api.ErrLong
	}
	return api.Token{Kind: api.TkName, S: run}, len(run), api.OK
}

func referenceNumber(digits string, base, length int) (api.Token, int, api.Errno) {
	n, ok := new(big.Int).SetString(digits, base)
	if !ok || strings.Contains(digits, "_") || n.Cmp(bound) >= 0 {
		return api.Token{}, 0, api.ErrDigits
	}
	return api.Token{Kind: api.TkNumber, I: fromBig(n)}, length, api.OK
}

// bound is the least number that is too large.
var bound = new(big.Int).Exp(big.NewInt(10), big.NewInt(360), nil)

func fromBig(b *big.Int) api.Int {
	left := new(big.Int).Abs(b)
	a := api.Int{Neg: b.Sign() < 0}
	for part := new(big.Int); left.Sign() > 0; {
		left.QuoRem(left, big.NewInt(api.Base), part)
		a.D = append(a.D, int(part.Int64()))
	}
	return a
}

// lineAndColumn returns where a byte stands, by the definition of lines and columns.
func lineAndColumn(text string, at int) (int, int) {
	line := 1 + strings.Count(text[:at], "\n")
	col := 1
	for _, b := range []byte(text[strings.LastIndex(text[:at], "\n")+1 : at]) {
		col++
		for b == '\t' && col%8 != 1 {
			col++
		}
	}
	return line, col
}
