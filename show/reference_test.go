package show_test

import (
	"fmt"
	"slices"
	"strings"
	"testing"

	"foregone/api"
	"foregone/lex"
	"foregone/parse"
	"foregone/show"
)

// The second writer follows the chapter word by word: it makes all tokens first, with the roles that blanks are told of, and cuts them into lines.

// bit is a token with its role: that of the chapter's list of blanks, or "new line", or "item" and the path of a list.
type bit struct {
	token api.Token
	role  string
}

// second is a tree with the parentheses that it has, by paths.
type second struct {
	par map[string]bool
}

func key(path []int) string { return fmt.Sprint(path) }

func bitsOf(words ...string) []bit {
	var l []bit
	for _, s := range words {
		role := ""
		if head, rest, ok := strings.Cut(s, "~of~"); ok {
			s, role = head, rest
		}
		kind := lex.Kind(s)
		if kind == api.TkName || kind == api.TkSign || kind == api.TkKey {
			l = append(l, bit{api.Token{Kind: kind, S: s}, role})
		} else {
			l = append(l, bit{api.Token{Kind: kind}, role})
		}
	}
	return l
}

// isSecondPlace says the rule of places the other way round: which elements may have parentheses.
func isSecondPlace(n api.Node, i int) bool {
	switch n.Kind {
	case api.NdSubst, api.NdCall:
		return n.L[i].Kind != api.NdSign && n.L[i].Kind != api.NdLambda
	case api.NdBind, api.NdUpdate, api.NdQuant, api.NdChoose, api.NdFilter, api.NdFun, api.NdLet, api.NdLambda:
		return i == len(n.L)-1
	case api.NdMap, api.NdExcept:
		return i == 0
	case api.NdPrefix, api.NdInfix, api.NdPrime, api.NdJunct, api.NdSet, api.NdFunSet, api.NdField, api.NdStep, api.NdIndex, api.NdDot, api.NdTuple, api.NdProduct, api.NdIf, api.NdArm, api.NdSquare, api.NdAngle, api.NdFair:
		return true
	}
	return false
}

// secondPaths returns the paths of all places: those of lesser paths first, which is the order of the walk.
func secondPaths(n api.Node) [][]int {
	var l [][]int
	for i, e := range n.L {
		if isSecondPlace(n, i) {
			l = append(l, []int{i})
		}
		for _, p := range secondPaths(e) {
			l = append(l, append([]int{i}, p...))
		}
	}
	slices.SortFunc(l, slices.Compare[[]int])
	return l
}

// isSecondForced reports whether the text of an element would be read otherwise wherever it stands: as no subscript, or as a binder.
func isSecondForced(n api.Node, i int) bool {
	e := n.L[i]
	isSub := (n.Kind == api.NdSquare || n.Kind == api.NdAngle) && i == 1 || n.Kind == api.NdFair && i == 0
	if isSub {
		qual := e.Kind == api.NdQual
		for _, q := range e.L {
			qual = qual && q.Kind == api.NdName
		}
		return e.Kind != api.NdName && e.Kind != api.NdTuple && !qual
	}
	if n.Kind != api.NdMap || i != 0 || e.Kind != api.NdInfix || e.S != `\in` {
		return false
	}
	names := e.L[0].L
	if e.L[0].Kind == api.NdName {
		return true
	}
	for _, x := range names {
		if x.Kind != api.NdName {
			return false
		}
	}
	return e.L[0].Kind == api.NdTuple && len(names) > 0
}

// el makes the bits of an element.
func (w second) el(n api.Node, path []int, i int) []bit {
	sub := append(slices.Clone(path), i)
	l := w.bits(n.L[i], sub)
	if isSecondPlace(n, i) && (w.par[key(sub)] || isSecondForced(n, i)) {
		return slices.Concat(bitsOf("("), l, bitsOf(")"))
	}
	return l
}

// els makes the bits of elements with a sign between them.
func (w second) els(n api.Node, path []int, from, to int, sign string) []bit {
	var l []bit
	for i := from; i < to; i++ {
		if i > from && sign != "" {
			l = append(l, bitsOf(sign)...)
		}
		l = append(l, w.el(n, path, i)...)
	}
	return l
}

// bits makes the bits of a node by a template: words are written as they are, and elements as 0, 1, .., < for all but the last one, > for the last one, * for all of them and + for all but the first one.
func (w second) bits(n api.Node, path []int) []bit {
	if n.Kind == api.NdJunct {
		var l []bit
		for i := range n.L {
			l = append(l, slices.Concat(bitsOf(n.S+"~of~item "+key(path)), w.el(n, path, i))...)
		}
		return l
	}
	if n.Kind == api.NdNumber || n.Kind == api.NdString {
		kind := api.TkNumber
		if n.Kind == api.NdString {
			kind = api.TkString
		}
		return []bit{{api.Token{Kind: kind, S: n.S, I: n.I}, ""}}
	}
	var l []bit
	last := len(n.L) - 1
	for part := range strings.FieldsSeq(template(n)) {
		switch part {
		case "_0", "_1", "_2":
			l = append(l, w.el(n, path, int(part[1]-'0'))...)
		case "_<":
			l = append(l, w.els(n, path, 0, last, ",")...)
		case "_>":
			l = append(l, w.el(n, path, last)...)
		case "_*":
			l = append(l, w.els(n, path, 0, last+1, ",")...)
		case "_+":
			l = append(l, w.els(n, path, 1, last+1, ",")...)
		case "_lines":
			for i := range n.L {
				unit := w.el(n, path, i)
				unit[0].role = "new line"
				l = append(l, unit...)
			}
		case "_steps":
			l = append(l, w.els(n, path, 0, last, "")...)
		case "_\\X", "_[]":
			l = append(l, w.els(n, path, 0, last+1, part[1:])...)
		case "_!":
			l = append(l, w.els(n, path, 0, last+1, "!~of~qual")...)
		case "_|->", "_:":
			for i, f := range n.L {
				if i > 0 {
					l = append(l, bitsOf(",")...)
				}
				l = append(l, slices.Concat(bitsOf(f.S, part[1:]), w.el(f, append(slices.Clone(path), i), 0))...)
			}
		default:
			l = append(l, bitsOf(part)...)
		}
	}
	return l
}

// template returns how a node is written.
func template(n api.Node) string {
	local := strings.Repeat("LOCAL ", n.N%2)
	statement := n.S
	if n.S != "" {
		statement += " =="
	}
	switch n.Kind {
	case api.NdModule:
		return "---- MODULE " + n.S + " ---- _lines ====~of~new_line"
	case api.NdDefine:
		head := n.S
		switch {
		case parse.Definable(n.S):
			head = "_0 " + n.S + " _1"
		case len(n.L) > 1:
			head += " (~of~call _< )"
		}
		return local + head + " == _>"
	case api.NdFunDef:
		return local + n.S + " [~of~index _< ] == _>"
	case api.NdInstance:
		if len(n.L) == 0 {
			return local + "INSTANCE " + n.S
		}
		return local + "INSTANCE " + n.S + " WITH _*"
	case api.NdDecl:
		if n.N == 0 {
			return n.S
		}
		return n.S + " (~of~call _ " + strings.Repeat(", _ ", n.N-1) + ")"
	case api.NdVar:
		if len(n.L) == 0 {
			return n.S
		}
		return n.S + ` \in _0`
	case api.NdAssume:
		return "ASSUME " + statement + " _0"
	case api.NdTheorem:
		return "THEOREM " + statement + " _0"
	case api.NdBind:
		if n.N == 1 {
			return `<< _< >> \in _>`
		}
		return `_< \in _>`
	case api.NdStep:
		if n.S != "" {
			return ". " + n.S
		}
		return "[~of~index _* ]"
	case api.NdArm:
		if n.N == 1 {
			return "OTHER -> _0"
		}
		return "_0 -> _1"
	}
	return map[int]string{
		api.NdExtends: "EXTENDS _*", api.NdConstants: "CONSTANTS _*", api.NdVariables: "VARIABLES _*", api.NdRecursive: "RECURSIVE _*", api.NdSubst: n.S + " <- _0",
		api.NdName: n.S, api.NdWord: n.S, api.NdSign: n.S, api.NdCall: n.S + " (~of~call _* )", api.NdQual: "_!", api.NdPrefix: n.S + "~of~prefix _0", api.NdInfix: "_0 " + n.S + " _1", api.NdPrime: "_0 '",
		api.NdQuant: n.S + " _< : _>", api.NdChoose: "CHOOSE _< : _>", api.NdLambda: "LAMBDA _< : _>", api.NdSet: "{ _* }", api.NdFilter: "{ _0 : _1 }", api.NdMap: "{ _0 : _+ }", api.NdFun: "[ _< |-> _> ]", api.NdFunSet: "[ _0 -> _1 ]", api.NdRecord: "[ _|-> ]", api.NdRecSet: "[ _: ]",
		api.NdExcept: "[ _0 EXCEPT _+ ]", api.NdUpdate: "! _steps = _>", api.NdIndex: "_0 [~of~index _+ ]", api.NdDot: "_0 . " + n.S, api.NdTuple: "<< _* >>", api.NdProduct: `_\X`, api.NdIf: "IF _0 THEN _1 ELSE _2", api.NdCase: "CASE _[]", api.NdLet: "LET _steps IN _>",
		api.NdSquare: "[ _0 ]_ _1", api.NdAngle: "<< _0 >>_ _1", api.NdFair: n.S + " _0 (~of~call _1 )",
	}[n.Kind]
}

// noBlank reports whether the chapter's list says that no blank stands between two tokens.
func noBlank(a, b bit) bool {
	is := func(t api.Token, kind int, s ...string) bool { return t.Kind == kind && slices.Contains(s, t.S) }
	behind := is(a.token, api.TkSign, "(", "[", "{", "<<", "!", "]_", ">>_", ".") || is(a.token, api.TkKey, "WF_", "SF_") || a.role == "prefix" && a.token.Kind == api.TkSign
	ahead := is(b.token, api.TkSign, ")", "]", "]_", "}", ">>", ">>_", ",", "'", ".") || b.role == "qual" || b.role == "index" || b.role == "call"
	return behind || ahead
}

// secondText writes bits in lines.
func secondText(l []bit) string {
	columns := map[string]int{}
	var lines []string
	line := ""
	var tokens []api.Token // of the line
	newLine := func(blanks int) {
		lines = append(lines, line)
		line, tokens = strings.Repeat(" ", blanks), nil
	}
	for i, b := range l {
		spelling, _ := lex.Spell(b.token)
		column, old := columns[b.role]
		switch {
		case b.role == "new line" || b.role == "new_line":
			newLine(0)
		case old:
			newLine(column)
		case len(tokens) > 0 && (!noBlank(l[i-1], b) || !isReadAs(line+spelling, append(slices.Clone(tokens), b.token))):
			line += " "
		}
		if strings.HasPrefix(b.role, "item") {
			columns[b.role] = len(line)
		}
		line += spelling
		tokens = append(tokens, b.token)
	}
	lines = append(lines, line)
	return strings.Join(lines, "\n")
}

func isReadAs(line string, l []api.Token) bool {
	read, _, e := lex.Tokens(line)
	return e == api.OK && slices.EqualFunc(read, l, alike)
}

// secondWith does what With says.
func secondWith(n api.Node, par []bool) (string, []bit) {
	w := second{map[string]bool{}}
	for i, p := range secondPaths(n) {
		w.par[key(p)] = par[i]
	}
	l := w.bits(n, nil)
	text := secondText(l)
	if n.Kind == api.NdModule {
		text += "\n"
	}
	return text, l
}

// P4.1, P4.2
func TestSecondWriter(t *testing.T) {
	for seed := range uint64(600) {
		m := newMaker(seed)
		n := m.any(2 + m.IntN(4))
		paths := placesOf(t, n)
		if !slices.EqualFunc(paths, secondPaths(n), slices.Equal[[]int]) {
			t.Fatalf("seed %d: Places: %v, want %v", seed, paths, secondPaths(n))
		}
		par := all(len(paths), m.IntN(2) == 0)
		for i := range par {
			par[i] = par[i] != (m.IntN(3) == 0)
		}
		text, e := show.With(n, par)
		want, bits := secondWith(n, par)
		if e != api.OK || text != want {
			t.Fatalf("seed %d: With: %d\n%s\nwant\n%s", seed, e, text, want)
		}
		tokens, e := show.Tokens(n, par)
		if e != api.OK || !slices.EqualFunc(tokens, bits, isBit) {
			t.Fatalf("seed %d: Tokens: %d, %v", seed, e, tokens)
		}
		full, e := show.Full(n)
		if want, _ := secondWith(n, all(len(par), true)); e != api.OK || full != want {
			t.Fatalf("seed %d: Full: %d\n%s\nwant\n%s", seed, e, full, want)
		}
	}
}

func isBit(t api.Token, b bit) bool {
	return alike(t, b.token) && t.At == 0 && t.End == 0 && t.Line == 0 && t.Col == 0
}
