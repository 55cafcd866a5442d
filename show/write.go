package show

import (
	"slices"
	"strings"

	"foregone/api"
	"foregone/lex"
)

// tooLong leaves the writing of a text that has too many bytes or tokens.
type tooLong struct{}

// written returns the text of a well-formed tree with the parentheses that par says.
func written(n api.Node, par []bool) (text string, e api.Errno) {
	defer func() {
		if _, ok := recover().(tooLong); ok {
			text, e = "", api.ErrLimit
		}
	}()
	w := &writer{}
	for p := range pieces(n, par) {
		w.put(p)
	}
	if n.Kind == api.NdModule {
		w.feed(0)
	}
	return w.String(), api.OK
}

// writer puts tokens into lines.
type writer struct {
	strings.Builder
	count   int     // how many tokens there are
	line    []piece // those of the line that is written
	begins  []int   // where each one of them begins
	start   int     // where the line begins
	columns []int   // how many bytes of the line stand ahead of the signs of each list
}

// put writes a token.
func (w *writer) put(p piece) {
	w.count++
	if w.count > api.MaxTokens {
		panic(tooLong{})
	}
	spelling := spell(p.Token)
	w.separate(p, spelling)
	if p.list > len(w.columns) {
		w.columns = append(w.columns, w.Len()-w.start)
	}
	w.line = append(w.line, p)
	w.begins = append(w.begins, w.Len())
	w.add(spelling)
}

// separate writes what stands between the last token and the next one, p.
func (w *writer) separate(p piece, spelling string) {
	last := len(w.line) - 1
	switch {
	case p.line:
		w.feed(0)
	case p.list > 0 && p.list <= len(w.columns):
		w.feed(w.columns[p.list-1])
	case last < 0:
	case !p.ahead && !w.line[last].behind || !w.joins(p, spelling):
		w.add(" ")
	}
}

// feed begins a line, with blanks ahead.
func (w *writer) feed(blanks int) {
	w.add("\n")
	w.start = w.Len()
	w.line, w.begins = w.line[:0], w.begins[:0]
	w.add(strings.Repeat(" ", blanks))
}

// add writes bytes.
func (w *writer) add(s string) {
	w.WriteString(s)
	if w.Len() > api.MaxText {
		panic(tooLong{})
	}
}

// reach is how many tokens at the end of a line may be read otherwise when the line goes on: a token that begins four bytes or more ahead of the end stays what it is, but for the last one, and for a \ directly ahead of it.
const reach = 3

// joins reports whether the line is read as its tokens and the next one if this stands directly behind them.
func (w *writer) joins(next piece, spelling string) bool {
	last := w.line[len(w.line)-1]
	if stayApart(last.Token, next.Token) {
		return true
	}
	again := max(0, len(w.line)-reach)
	read, _, e := lex.Tokens(w.String()[w.begins[again]:] + spelling)
	want := append(slices.Clone(w.line[again:]), next)
	return e == api.OK && slices.EqualFunc(read, want, isToken)
}

// isToken reports whether a token that was read is that of a piece.
func isToken(t api.Token, p piece) bool {
	return t.Kind == p.Kind && t.S == p.S && slices.Equal(t.I.D, p.I.D)
}

// stayApart reports of most tokens that cannot become one that they do not: it saves the reading of the line.
func stayApart(a, b api.Token) bool {
	switch {
	case a.Kind != api.TkSign:
		return b.Kind == api.TkSign && b.S != "_"
	case b.Kind == api.TkName || b.Kind == api.TkKey:
		return !isWordSign(a) && b.S[0] != '_'
	}
	return b.Kind == api.TkNumber && !isWordSign(a)
}

// isWordSign reports whether a sign may go on with letters or digits.
func isWordSign(t api.Token) bool { return t.S[0] == '\\' || t.S == "_" }

// spell returns the spelling of a valid token.
func spell(t api.Token) string {
	if t.Kind == api.TkName || t.Kind == api.TkKey || t.Kind == api.TkSign {
		return t.S
	}
	s, _ := lex.Spell(t)
	return s
}
