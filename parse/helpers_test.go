package parse_test

import (
	"fmt"
	"math/rand/v2"
	"slices"
	"strconv"
	"strings"
	"testing"

	"foregone/api"
	"foregone/lex"
	"foregone/parse"
)

// labels are what the tests call the kinds of nodes.
var labels = map[int]string{
	api.NdModule: "module", api.NdExtends: "extends", api.NdConstants: "constants", api.NdVariables: "variables", api.NdAssume: "assume", api.NdTheorem: "theorem", api.NdRecursive: "recursive", api.NdDefine: "def", api.NdFunDef: "fundef", api.NdInstance: "instance", api.NdSubst: "subst", api.NdDecl: "decl", api.NdVar: "var",
	api.NdCall: "call", api.NdQual: "qual", api.NdPrefix: "pre", api.NdInfix: "", api.NdPrime: "prime", api.NdJunct: "list", api.NdQuant: "", api.NdChoose: "choose", api.NdBind: "bind", api.NdSet: "set", api.NdFilter: "filter", api.NdMap: "map", api.NdFun: "fun", api.NdFunSet: "funset", api.NdRecord: "record", api.NdRecSet: "recset", api.NdField: "field", api.NdExcept: "except", api.NdUpdate: "update", api.NdStep: "step", api.NdIndex: "index", api.NdDot: "dot", api.NdTuple: "tuple", api.NdProduct: "product", api.NdIf: "if", api.NdCase: "case", api.NdArm: "arm", api.NdLet: "let", api.NdSquare: "square", api.NdAngle: "angle", api.NdFair: "", api.NdLambda: "lambda", api.NdSign: "sign",
}

// brief writes a tree in one line: the label, S, # and N unless it is 0, and the elements in parentheses.
func brief(n api.Node) string {
	switch n.Kind {
	case api.NdName, api.NdWord:
		return n.S
	case api.NdNumber:
		return fmt.Sprint(n.I.D)
	case api.NdString:
		return strconv.Quote(n.S)
	}
	s := strings.TrimSpace(labels[n.Kind] + " " + n.S)
	if n.N != 0 {
		s += "#" + strconv.Itoa(n.N)
	}
	var l []string
	for _, e := range n.L {
		l = append(l, brief(e))
	}
	if l == nil && n.Kind != api.NdSet && n.Kind != api.NdTuple {
		return s
	}
	return s + "(" + strings.Join(l, ", ") + ")"
}

// equal reports whether two trees are the same, At and End included.
func equal(a, b api.Node) bool {
	return a.Kind == b.Kind && a.N == b.N && a.S == b.S && a.At == b.At && a.End == b.End && a.I.Neg == b.I.Neg && slices.Equal(a.I.D, b.I.D) && slices.EqualFunc(a.L, b.L, equal)
}

func isZero(n api.Node) bool {
	return n.Kind == 0 && n.N == 0 && n.S == "" && !n.I.Neg && len(n.I.D) == 0 && len(n.L) == 0 && n.At == 0 && n.End == 0
}

// tree returns the tree of a text of an expression without an error.
func tree(t *testing.T, text string) api.Node {
	t.Helper()
	n, at, e := parse.Expr(text)
	if e != api.OK || at != 0 {
		t.Fatalf("Expr(%q): %d at %d", text, e, at)
	}
	return n
}

// moduleTree returns the tree of a text of a module without an error.
func moduleTree(t *testing.T, text string) api.Node {
	t.Helper()
	n, at, e := parse.Module(text)
	if e != api.OK || at != 0 {
		t.Fatalf("Module(%q): %d at %d", text, e, at)
	}
	return n
}

func tokensOf(t *testing.T, text string) []api.Token {
	t.Helper()
	l, _, e := lex.Tokens(text)
	if e != api.OK {
		t.Fatalf("Tokens(%q): %d", text, e)
	}
	return l
}

// expectExpr checks the tree of a text, and that the second reader has the same one.
func expectExpr(t *testing.T, text, want string) {
	t.Helper()
	n, at, e := parse.Expr(text)
	if e != api.OK || at != 0 || brief(n) != want {
		t.Errorf("Expr(%q): %s, %d at %d, want %s", text, brief(n), e, at, want)
	}
	compareExpr(t, text)
}

func expectError(t *testing.T, text string, at int, e api.Errno) {
	t.Helper()
	if n, a, f := parse.Expr(text); !isZero(n) || a != at || f != e {
		t.Errorf("Expr(%.80q): %s, %d at %d, want %d at %d", text, brief(n), f, a, e, at)
	}
}

// expectUnits checks the units of a module that has these lines.
func expectUnits(t *testing.T, units string, want ...string) {
	t.Helper()
	text := head + units + "\n====\n"
	n, at, e := parse.Module(text)
	list := "module M"
	if len(want) > 0 {
		list += "(" + strings.Join(want, ", ") + ")"
	}
	if e != api.OK || at != 0 || brief(n) != list {
		t.Errorf("%q: %s, %d at %d, want %s", units, brief(n), e, at, list)
	}
	compareModule(t, text)
}

// expectUnitError checks the error of a module that has these lines; at counts from the first one on.
func expectUnitError(t *testing.T, units string, at int, e api.Errno) {
	t.Helper()
	text := head + units
	if n, a, f := parse.Module(text); !isZero(n) || a != len(head)+at || f != e {
		t.Errorf("%q: %s, %d at %d, want %d at %d", units, brief(n), f, a-len(head), e, at)
	}
	compareModule(t, text)
}

const head = "---- MODULE M ----\n"

// compareExpr checks that both readers read a text as the same.
func compareExpr(t *testing.T, text string) {
	t.Helper()
	n, at, e := parse.Expr(text)
	if m, b, f := secondExpr(text); !equal(n, m) || at != b || e != f {
		t.Errorf("Expr(%q): %s, %d at %d, the second reader: %s, %d at %d", text, brief(n), e, at, brief(m), f, b)
	}
}

func compareModule(t *testing.T, text string) {
	t.Helper()
	n, at, e := parse.Module(text)
	if m, b, f := secondModule(text); !equal(n, m) || at != b || e != f {
		t.Errorf("Module(%q): %s, %d at %d, the second reader: %s, %d at %d", text, brief(n), e, at, brief(m), f, b)
	}
}

// walk calls visit for a node and all within it.
func walk(n api.Node, visit func(n api.Node)) {
	visit(n)
	for _, e := range n.L {
		walk(e, visit)
	}
}

func has(n api.Node, kind int) bool {
	found := false
	walk(n, func(e api.Node) { found = found || e.Kind == kind })
	return found
}

// writer writes random texts (always the same): what it writes follows the grammar, but that operators do not look at each other's precedence.
type writer struct {
	*rand.Rand
	b      strings.Builder
	column int
	from   int  // what begins a new line stands further to the right than this column
	apart  bool // whether a blank has to come ahead of the next token
	flat   bool
}

func newWriter(seed uint64) *writer { return &writer{Rand: rand.New(rand.NewPCG(31, seed)), column: 1} }

// put writes tokens, with blanks between them, or ahead of one a new line; flat texts have one line.
func (w *writer) put(tokens ...string) {
	for _, s := range tokens {
		if !w.flat && w.IntN(25) == 0 {
			w.newLine(w.from + 1 + w.IntN(6))
		}
		if w.apart {
			w.b.WriteByte(' ')
			w.column++
		}
		w.b.WriteString(s)
		w.column += len(s)
		w.apart = true
	}
}

func (w *writer) newLine(column int) {
	w.b.WriteByte('\n')
	w.b.WriteString(strings.Repeat(" ", column-1))
	w.column, w.apart = column, false
}

func (w *writer) pick(l ...string) string { return l[w.IntN(len(l))] }

func (w *writer) name() string { return w.pick("a", "b", "c", "f", "x", "y", "S", "T") }

// some writes one or more parts with commas between them.
func (w *writer) some(part func()) {
	part()
	for w.IntN(3) == 0 {
		w.put(",")
		part()
	}
}

func (w *writer) expr(deep int) {
	w.operand(deep)
	for range []int{0, 0, 0, 1, 1, 2}[w.IntN(6)] {
		if deep > 0 {
			w.put(w.infix())
			w.operand(deep - 1)
		}
	}
}

func (w *writer) infix() string {
	if w.IntN(3) > 0 {
		return w.pick(`/\`, `\/`, "+", "-", "=", `\in`, "*", `\X`, "=>", `\cup`, ":>", "%")
	}
	return w.pick(infixSigns...)
}

func sortedKeys(table map[string]rangeOf) []string {
	var l []string
	for s := range table {
		l = append(l, s)
	}
	slices.Sort(l)
	return l
}

func (w *writer) operand(deep int) {
	for w.IntN(6) == 0 {
		w.put(w.pick(prefixSigns...))
	}
	if deep <= 0 {
		w.put(w.pick("a", "b", "c", "1", "20", `"s"`, "TRUE", "@"))
	} else {
		w.primary(deep - 1)
	}
	for w.IntN(6) == 0 {
		switch w.IntN(3) {
		case 0:
			w.put("'")
		case 1:
			w.put(".", w.name())
		case 2:
			w.put("[")
			w.some(func() { w.expr(deep - 1) })
			w.put("]")
		}
	}
}

// primary writes one of the primaries.
func (w *writer) primary(deep int) {
	e := func() { w.expr(deep) }
	switch w.IntN(24) {
	case 0, 1, 2, 3:
		w.put(w.pick("a", "b", "c", "1", "20", `"s"`, "TRUE", "BOOLEAN", "@"))
	case 4, 5:
		w.put("(")
		e()
		w.put(")")
	case 6, 7:
		w.called(deep)
		for w.IntN(3) == 0 {
			w.put("!")
			w.called(deep)
		}
	case 8, 9:
		w.list(deep)
	case 10:
		w.put(w.pick(`\A`, `\E`))
		w.some(func() { w.bind(deep) })
		w.put(":")
		e()
	case 11:
		w.put("CHOOSE")
		w.bindOne(deep)
		w.put(":")
		e()
	case 12:
		for _, word := range []string{"IF", "THEN", "ELSE"} {
			w.put(word)
			e()
		}
	case 13:
		w.cases(deep)
	case 14:
		w.put("LET")
		for more := true; more; more = w.IntN(2) == 0 {
			w.definition(deep)
		}
		w.put("IN")
		e()
	case 15, 16:
		w.braces(deep)
	case 17:
		w.put("<<")
		if w.IntN(4) > 0 {
			w.some(e)
		}
		w.put(">>")
	case 18:
		w.put(w.pick("WF_", "SF_"))
		w.subscript(deep)
		w.put("(")
		e()
		w.put(")")
	case 19:
		w.put("<<")
		e()
		w.put(">>_")
		w.subscript(deep)
	default:
		w.brackets(deep)
	}
}

func (w *writer) called(deep int) {
	w.put(w.name())
	if w.IntN(2) > 0 {
		return
	}
	w.put("(")
	w.some(func() {
		switch w.IntN(6) {
		case 0:
			w.put(w.infix())
		case 1:
			w.lambda(deep)
		default:
			w.expr(deep)
		}
	})
	w.put(")")
}

func (w *writer) lambda(deep int) {
	w.put("LAMBDA")
	w.some(func() { w.put(w.name()) })
	w.put(":")
	w.expr(deep)
}

// list writes a bulleted list; in one line, it has one item.
func (w *writer) list(deep int) {
	sign, from := w.pick(`/\`, `\/`), w.from
	w.put(sign)
	column := w.column - len(sign)
	for {
		w.from = column
		w.expr(deep)
		if w.flat || w.IntN(3) == 0 {
			break
		}
		w.newLine(column)
		w.b.WriteString(sign)
		w.column, w.apart = w.column+len(sign), true
	}
	w.from = from
}

func (w *writer) bind(deep int) {
	if w.IntN(3) == 0 {
		w.bindOne(deep)
		return
	}
	w.some(func() { w.put(w.name()) })
	w.put(`\in`)
	w.expr(deep)
}

func (w *writer) bindOne(deep int) {
	if w.IntN(2) == 0 {
		w.put("<<")
		w.some(func() { w.put(w.name()) })
		w.put(">>")
	} else {
		w.put(w.name())
	}
	w.put(`\in`)
	w.expr(deep)
}

func (w *writer) cases(deep int) {
	w.put("CASE")
	for i := 0; ; i++ {
		if i > 0 && w.IntN(3) == 0 {
			w.put("OTHER")
		} else {
			w.expr(deep)
		}
		w.put("->")
		w.expr(deep)
		if w.IntN(2) == 0 {
			return
		}
		w.put("[]")
	}
}

func (w *writer) braces(deep int) {
	w.put("{")
	switch w.IntN(5) {
	case 0:
	case 1:
		w.some(func() { w.expr(deep) })
	case 2:
		w.bindOne(deep)
		w.put(":")
		w.expr(deep)
	case 3:
		w.put("(")
		w.bindOne(deep)
		w.put(")", ":")
		w.some(func() { w.bind(deep) })
	case 4:
		w.expr(deep)
		w.put(":")
		w.some(func() { w.bind(deep) })
	}
	w.put("}")
}

func (w *writer) brackets(deep int) {
	w.put("[")
	e := func() { w.expr(deep) }
	switch w.IntN(6) {
	case 0, 1:
		sign := w.pick("|->", ":")
		w.some(func() {
			w.put(w.name(), sign)
			e()
		})
	case 2:
		w.some(func() { w.bind(deep) })
		w.put("|->")
		e()
	case 3:
		e()
		w.put("->")
		e()
	case 4:
		e()
		w.put("]_")
		w.subscript(deep)
		return
	case 5:
		e()
		w.put("EXCEPT")
		w.some(func() {
			w.put("!")
			for more := true; more; more = w.IntN(3) == 0 {
				if w.IntN(2) == 0 {
					w.put(".", w.name())
				} else {
					w.put("[")
					w.some(e)
					w.put("]")
				}
			}
			w.put("=")
			e()
		})
	}
	w.put("]")
}

func (w *writer) subscript(deep int) {
	switch w.IntN(4) {
	case 0:
		w.put("(")
		w.expr(deep)
		w.put(")")
	case 1:
		w.put("<<")
		w.some(func() { w.expr(deep) })
		w.put(">>")
	default:
		w.put(w.name())
		if w.IntN(3) == 0 {
			w.put("!", w.name())
		}
	}
}

// definition writes a definition whose body is an expression.
func (w *writer) definition(deep int) {
	w.put(w.name())
	switch w.IntN(5) {
	case 0:
		w.put("[")
		w.some(func() { w.bind(deep) })
		w.put("]")
	case 1:
		w.put(w.pick(`\sim`, "...", "$", "(+)", "|", "--", "/", "&&", "^^"), w.name())
	case 2:
		w.put("(")
		w.some(w.decl)
		w.put(")")
	}
	w.put("==")
	w.expr(deep)
}

func (w *writer) decl() {
	w.put(w.name())
	if w.IntN(3) == 0 {
		w.put("(")
		w.some(func() { w.put("_") })
		w.put(")")
	}
}

func (w *writer) instance(deep int) {
	w.put("INSTANCE", w.name())
	if w.IntN(3) == 0 {
		return
	}
	w.put("WITH")
	w.some(func() {
		w.put(w.pick("a", "b", "c", "(+)", "|"), "<-")
		switch w.IntN(4) {
		case 0:
			w.put(w.infix())
		case 1:
			w.lambda(deep)
		default:
			w.expr(deep)
		}
	})
}

func (w *writer) unit(deep int) {
	switch w.IntN(10) {
	case 0:
		w.put(w.pick("CONSTANT", "CONSTANTS", "RECURSIVE"))
		w.some(w.decl)
	case 1:
		w.put(w.pick("VARIABLE", "VARIABLES"))
		w.some(func() {
			w.put(w.name())
			if w.IntN(2) == 0 {
				w.put(`\in`)
				w.expr(deep)
			}
		})
	case 2, 3:
		w.put(w.pick("ASSUME", "ASSUMPTION", "AXIOM", "THEOREM"))
		if w.IntN(2) == 0 {
			w.put(w.name(), "==")
		}
		w.expr(deep)
	case 4:
		w.put("----")
	case 5:
		w.local()
		w.instance(deep)
	case 6:
		w.local()
		w.put(w.name())
		if w.IntN(2) == 0 {
			w.put("(")
			w.some(w.decl)
			w.put(")")
		}
		w.put("==")
		w.instance(deep)
	default:
		w.local()
		w.definition(deep)
	}
}

func (w *writer) local() {
	if w.IntN(4) == 0 {
		w.put("LOCAL")
	}
}

func (w *writer) module(deep int) {
	w.put("----", "MODULE", w.name(), "----")
	w.newLine(1)
	if w.IntN(2) == 0 {
		w.put("EXTENDS")
		w.some(func() { w.put(w.name()) })
		w.newLine(1)
	}
	for w.IntN(5) > 0 {
		w.unit(deep)
		w.newLine(1)
	}
	w.put("====")
}

// randomExpr returns a text that may be one of an expression.
func randomExpr(seed uint64, flat bool) string {
	w := newWriter(seed)
	w.flat = flat
	w.expr(1 + w.IntN(4))
	return w.b.String()
}

func randomModule(seed uint64) string {
	w := newWriter(seed)
	w.module(w.IntN(3))
	return w.b.String()
}

// goodExprs returns random texts of expressions (always the same).
func goodExprs(t *testing.T, count int, flat bool) []string {
	t.Helper()
	var l []string
	for seed := range uint64(count) {
		s := randomExpr(seed, flat)
		if _, _, e := parse.Expr(s); e == api.OK {
			l = append(l, s)
		}
	}
	if len(l) < count/3 {
		t.Fatalf("only %d of %d texts have no error", len(l), count)
	}
	return l
}

func goodModules(t *testing.T, count int) []string {
	t.Helper()
	var l []string
	for seed := range uint64(count) {
		s := randomModule(seed)
		if _, _, e := parse.Module(s); e == api.OK {
			l = append(l, s)
		}
	}
	if len(l) < count/4 {
		t.Fatalf("only %d of %d texts have no error", len(l), count)
	}
	return l
}

// spoilt returns a text with a token left out, put in, put twice or exchanged for another one.
func spoilt(seed uint64, text string) string {
	source := rand.New(rand.NewPCG(33, seed))
	l, _, _ := lex.Tokens(text)
	if len(l) == 0 {
		return text
	}
	token := l[source.IntN(len(l))]
	more := []string{"(", ")", "[", "]", "]_", "{", "}", "<<", ">>", ">>_", ",", ":", ".", "!", "_", "@", "'", "==", "|->", "->", "<-", "|-", `\AA`, "=", "+", "-", "~", "[]", "<>", `/\`, `\/`, `\in`, `\X`, `\cdot`, "a", "1", `"s"`, "IF", "THEN", "ELSE", "CASE", "OTHER", "LET", "IN", "LAMBDA", "EXCEPT", "LOCAL", "INSTANCE", "WITH", "EXTENDS", "CONSTANT", "MODULE", "WF_", "ENABLED", "----", "====", "\n"}
	other := more[source.IntN(len(more))]
	at, end := token.At, token.End
	switch source.IntN(5) {
	case 0:
		return text[:at] + text[end:]
	case 1:
		return text[:at] + other + " " + text[at:]
	case 2:
		return text[:end] + " " + text[at:]
	case 3:
		return text[:end]
	}
	return text[:at] + " " + other + " " + text[end:]
}
