package lex

import (
	"slices"
	"strings"

	"foregone/api"
	"foregone/num"
)

// Spell returns the text of a token.
func Spell(t api.Token) (string, api.Errno) { return new(language).spell(t) }

func (g *language) spell(t api.Token) (string, api.Errno) {
	if !g.valid(t) {
		return "", api.ErrToken
	}
	switch t.Kind {
	case api.TkNumber:
		return num.Text(t.I)
	case api.TkString:
		return quote(t.S), api.OK
	case api.TkRule:
		return ruleSpelling, api.OK
	case api.TkClose:
		return endSpelling, api.OK
	}
	return t.S, api.OK
}

// spellAll returns the spellings of tokens.
func (g *language) spellAll(l []api.Token) ([]string, api.Errno) {
	var spellings []string
	for _, t := range l {
		s, e := g.spell(t)
		if e != api.OK {
			return nil, e
		}
		spellings = append(spellings, s)
	}
	return spellings, api.OK
}

func (g *language) valid(t api.Token) bool {
	if num.Check(t.I) != api.OK || num.Sign(t.I) < 0 || t.Kind != api.TkNumber && num.Sign(t.I) != 0 {
		return false
	}
	switch t.Kind {
	case api.TkName:
		return g.kind(t.S) == api.TkName
	case api.TkString:
		return isString(t.S)
	case api.TkKey:
		return g.isWord(t.S)
	case api.TkSign:
		return t.S != "" && g.canon(t.S) == t.S
	case api.TkNumber, api.TkRule, api.TkClose:
		return t.S == ""
	}
	return false
}

// isString reports whether s are the bytes of a string.
func isString(s string) bool {
	may := func(b byte) bool { return isPrintable(b) || strings.IndexByte(escapedBytes, b) >= 0 }
	return len(s) <= api.MaxStr && countFirst(s, may) == len(s)
}

// quote returns the spelling of a string.
func quote(s string) string {
	var b strings.Builder
	b.WriteByte('"')
	for i := range len(s) {
		if k := strings.IndexByte(escapedBytes, s[i]); k >= 0 {
			b.WriteByte('\\')
			b.WriteByte(escapeLetters[k])
			continue
		}
		b.WriteByte(s[i])
	}
	b.WriteByte('"')
	return b.String()
}

// alike reports whether valid tokens are the same, but for their places.
func alike(a, b api.Token) bool {
	return a.Kind == b.Kind && a.S == b.S && num.Compare(a.I, b.I) == 0
}

// placed reports whether tokens are alike, and stand in the same line and column.
func placed(a, b api.Token) bool {
	return alike(a, b) && a.Line == b.Line && a.Col == b.Col
}

// reads reports whether a text is read as tokens that are the same as those of a list.
func (g *language) reads(text string, l []api.Token, same func(a, b api.Token) bool) bool {
	r, f := g.read(text)
	return f.e == api.OK && slices.EqualFunc(r.tokens, l, same)
}

// Apart reports whether a blank is needed between two tokens.
func Apart(a, b api.Token) (bool, api.Errno) {
	g := new(language)
	l := []api.Token{a, b}
	spellings, e := g.spellAll(l)
	if e != api.OK {
		return false, e
	}
	return !g.reads(spellings[0]+spellings[1], l, alike), api.OK
}

// reach is how many tokens at the end of a text are read again when it goes on. All others stay: a token that begins four bytes or more ahead of the end is read otherwise only if what it looks at goes up to the end, which holds for the last token, and for a \ directly ahead of it.
const reach = 3

// Join returns tokens as a text of one line with as few blanks as possible.
func Join(l []api.Token) (string, api.Errno) {
	g := new(language)
	spellings, e := g.spellAll(l)
	if e != api.OK {
		return "", e
	}
	if len(l) > api.MaxTokens {
		return "", api.ErrLimit
	}
	var text []byte
	var begins []int // where each token begins
	for i, s := range spellings {
		begins = append(begins, len(text))
		again := max(0, i-reach)
		if !g.reads(string(text[begins[again]:])+s, l[again:i+1], alike) {
			text = append(text, ' ')
			begins[i]++
		}
		text = append(text, s...)
		if len(text) > api.MaxText {
			return "", api.ErrLimit
		}
	}
	return string(text), api.OK
}

// Place returns a text in which each token stands in its line and column.
func Place(l []api.Token) (string, api.Errno) {
	g := new(language)
	spellings, e := g.spellAll(l)
	if e != api.OK {
		return "", e
	}
	if len(l) > api.MaxTokens {
		return "", api.ErrLimit
	}
	if !haveRoom(l, spellings) {
		return "", api.ErrPlace
	}
	text, ok := layOut(l, spellings)
	if !ok {
		return "", api.ErrLimit
	}
	if !g.reads(text, l, placed) {
		return "", api.ErrPlace
	}
	return text, api.OK
}

// haveRoom reports whether each token begins behind the end of the one ahead of it, or in a later line.
func haveRoom(l []api.Token, spellings []string) bool {
	for i, t := range l {
		if t.Line < 1 || t.Col < 1 {
			return false
		}
		if i == 0 {
			continue
		}
		ahead := l[i-1]
		if t.Line < ahead.Line || t.Line == ahead.Line && t.Col-ahead.Col < len(spellings[i-1]) {
			return false
		}
	}
	return true
}

// layOut returns the text of tokens that have room; false if it is too long.
func layOut(l []api.Token, spellings []string) (string, bool) {
	var b strings.Builder
	line, col := 1, 1
	for i, t := range l {
		feeds := t.Line - line
		if feeds > 0 {
			col = 1
		}
		blanks := t.Col - col
		// Each number is compared alone: a sum of them may be no int.
		if feeds > api.MaxText || blanks > api.MaxText || b.Len()+feeds+blanks+len(spellings[i]) > api.MaxText {
			return "", false
		}
		b.WriteString(strings.Repeat("\n", feeds))
		b.WriteString(strings.Repeat(" ", blanks))
		b.WriteString(spellings[i])
		line, col = t.Line, t.Col+len(spellings[i])
	}
	return b.String(), true
}
