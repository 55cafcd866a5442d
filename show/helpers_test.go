package show_test

import (
	"math/rand/v2"
	"slices"
	"strings"
	"testing"

	"foregone/api"
	"foregone/lex"
	"foregone/num"
	"foregone/parse"
	"foregone/show"
)

// tree returns the tree of a text: a module, if it begins with ----, otherwise an expression.
func tree(t *testing.T, text string) api.Node {
	t.Helper()
	n, at, e := read(text)
	if e != api.OK {
		t.Fatalf("%q: %d at %d", text, e, at)
	}
	return n
}

func read(text string) (api.Node, int, api.Errno) {
	if strings.HasPrefix(text, "----") {
		return parse.Module(text)
	}
	return parse.Expr(text)
}

// isRead reports whether a text is read as a tree.
func isRead(text string, n api.Node) bool {
	m, _, e := read(text)
	return e == api.OK && parse.Same(m, n)
}

func tokensOf(t *testing.T, text string) []api.Token {
	t.Helper()
	l, _, e := lex.Tokens(text)
	if e != api.OK {
		t.Fatalf("Tokens(%q): %d", text, e)
	}
	return l
}

func alike(a, b api.Token) bool {
	return a.Kind == b.Kind && a.S == b.S && num.Compare(a.I, b.I) == 0
}

// textOf returns Text of a tree without an error.
func textOf(t *testing.T, n api.Node) string {
	t.Helper()
	text, e := show.Text(n)
	if e != api.OK {
		t.Fatalf("Text: %d of %v", e, n)
	}
	return text
}

func withOf(t *testing.T, n api.Node, par []bool) string {
	t.Helper()
	text, e := show.With(n, par)
	if e != api.OK {
		t.Fatalf("With: %d of %v", e, n)
	}
	return text
}

func placesOf(t *testing.T, n api.Node) [][]int {
	t.Helper()
	l, e := show.Places(n)
	if e != api.OK {
		t.Fatalf("Places: %d of %v", e, n)
	}
	return l
}

func neededOf(t *testing.T, n api.Node) []bool {
	t.Helper()
	l, e := show.Needed(n)
	if e != api.OK {
		t.Fatalf("Needed: %d of %v", e, n)
	}
	return l
}

// at returns the node with a path.
func at(n api.Node, path []int) api.Node {
	for _, i := range path {
		n = n.L[i]
	}
	return n
}

func all(count int, par bool) []bool { return slices.Repeat([]bool{par}, count) }

// flip returns a list with another value at i.
func flip(l []bool, i int) []bool {
	l = slices.Clone(l)
	l[i] = !l[i]
	return l
}

// maker makes random trees (always the same).
type maker struct {
	*rand.Rand
	lists bool // whether there may be bulleted lists
}

func newMaker(seed uint64) *maker { return &maker{Rand: rand.New(rand.NewPCG(47, seed)), lists: true} }

func (m *maker) pick(l ...string) string { return l[m.IntN(len(l))] }

func (m *maker) name() string { return m.pick("a", "b", "x", "f", "_c", "S", "1d", "_2e") }

func (m *maker) sign() string {
	return m.pick("=>", "<=>", "~>", `/\`, `\/`, "=", "#", `\in`, `\in`, `\in`, `\cdot`, "@@", ":>", `\cup`, `\`, "..", "...", "$", "+", "(+)", "%", "|", "||", "-", "-", "-", "(-)", "*", `\o`, `\div`, "/", "**", "^", "^^")
}

func (m *maker) definable() string { return m.pick("(+)", "--", "...", "$", `\prec`, "**", "^^", "|") }

func nd(kind int, s string, l ...api.Node) api.Node { return api.Node{Kind: kind, S: s, L: l} }

func named(s string) api.Node { return nd(api.NdName, s) }

func number(i int) api.Node { return api.Node{Kind: api.NdNumber, I: num.FromInt(i)} }

// some makes from least to least + 2 nodes.
func (m *maker) some(least int, item func() api.Node) []api.Node {
	var l []api.Node
	for range least + m.IntN(3) {
		l = append(l, item())
	}
	return l
}

func (m *maker) leaf() api.Node {
	switch m.IntN(8) {
	case 0:
		return number(m.IntN(30))
	case 1:
		return nd(api.NdString, m.pick("", `a"b`, "(*"))
	case 2:
		return nd(api.NdWord, m.pick("TRUE", "FALSE", "BOOLEAN", "STRING", "@"))
	}
	return named(m.name())
}

// expr makes an expression of a depth.
func (m *maker) expr(deep int) api.Node {
	if deep <= 1 || m.IntN(7) == 0 {
		return m.leaf()
	}
	deep--
	sub := func() api.Node { return m.expr(deep) }
	switch m.IntN(24) {
	case 0, 1, 2, 3, 4:
		return nd(api.NdInfix, m.sign(), sub(), sub())
	case 5, 6:
		return nd(api.NdPrefix, m.pick("~", "ENABLED", "UNCHANGED", "[]", "<>", "SUBSET", "UNION", "DOMAIN", "-", "-", "-"), sub())
	case 7:
		return nd(api.NdPrime, "", sub())
	case 8, 9:
		if m.lists {
			return nd(api.NdJunct, m.pick(`/\`, `\/`), m.some(1, sub)...)
		}
		return nd(api.NdSet, "", m.some(0, sub)...)
	case 10:
		return nd(api.NdProduct, "", m.some(2, sub)...)
	case 11:
		return nd(api.NdQuant, m.pick(`\A`, `\E`), append(m.some(1, func() api.Node { return m.bind(deep, true) }), sub())...)
	case 12:
		return nd(api.NdIf, "", sub(), sub(), sub())
	case 13, 14:
		return m.cases(deep)
	case 15:
		return nd(api.NdLet, "", append(m.some(1, func() api.Node { return m.definition(deep, false) }), sub())...)
	case 16:
		return nd(api.NdDot, m.name(), sub())
	case 17:
		return nd(api.NdIndex, "", append([]api.Node{sub()}, m.some(1, sub)...)...)
	case 18:
		return m.called(deep)
	case 19:
		return nd(m.either(api.NdSquare, api.NdAngle), "", sub(), m.subscript(deep))
	case 20:
		return nd(api.NdFair, m.pick("WF_", "SF_"), m.subscript(deep), sub())
	}
	return m.inBrackets(deep)
}

func (m *maker) either(a, b int) int {
	if m.IntN(2) == 0 {
		return a
	}
	return b
}

// inBrackets makes an expression that stands in brackets.
func (m *maker) inBrackets(deep int) api.Node {
	sub := func() api.Node { return m.expr(deep) }
	switch m.IntN(10) {
	case 0:
		return nd(api.NdChoose, "", m.bind(deep, false), sub())
	case 1:
		return nd(api.NdSet, "", m.some(0, sub)...)
	case 2, 3:
		return nd(api.NdFilter, "", m.bind(deep, false), sub())
	case 4:
		return nd(api.NdMap, "", append([]api.Node{sub()}, m.some(1, func() api.Node { return m.bind(deep, true) })...)...)
	case 5:
		return nd(api.NdFun, "", append(m.some(1, func() api.Node { return m.bind(deep, true) }), sub())...)
	case 6:
		return nd(api.NdFunSet, "", sub(), sub())
	case 7:
		return nd(m.either(api.NdRecord, api.NdRecSet), "", m.some(1, func() api.Node { return nd(api.NdField, m.name(), sub()) })...)
	case 8:
		return nd(api.NdExcept, "", append([]api.Node{sub()}, m.some(1, func() api.Node { return m.update(deep) })...)...)
	}
	return nd(api.NdTuple, "", m.some(0, sub)...)
}

func (m *maker) bind(deep int, several bool) api.Node {
	n := api.Node{Kind: api.NdBind, N: m.IntN(2), L: []api.Node{named(m.name())}}
	for (several || n.N == 1) && m.IntN(2) == 0 {
		n.L = append(n.L, named(m.name()))
	}
	n.L = append(n.L, m.expr(deep))
	return n
}

func (m *maker) cases(deep int) api.Node {
	n := nd(api.NdCase, "", m.some(1, func() api.Node { return nd(api.NdArm, "", m.expr(deep), m.expr(deep)) })...)
	if m.IntN(2) == 0 {
		n.L = append(n.L, api.Node{Kind: api.NdArm, N: 1, L: []api.Node{m.expr(deep)}})
	}
	return n
}

func (m *maker) update(deep int) api.Node {
	step := func() api.Node {
		if m.IntN(2) == 0 {
			return nd(api.NdStep, m.name())
		}
		return nd(api.NdStep, "", m.some(1, func() api.Node { return m.expr(deep) })...)
	}
	return nd(api.NdUpdate, "", append(m.some(1, step), m.expr(deep))...)
}

// called makes a call, or a qualified one.
func (m *maker) called(deep int) api.Node {
	call := func() api.Node {
		if m.IntN(3) == 0 {
			return named(m.name())
		}
		return nd(api.NdCall, m.name(), m.some(1, func() api.Node { return m.argument(deep) })...)
	}
	if m.IntN(2) == 0 {
		return nd(api.NdQual, "", m.some(2, call)...)
	}
	return call()
}

func (m *maker) argument(deep int) api.Node {
	switch m.IntN(6) {
	case 0:
		return nd(api.NdSign, m.sign())
	case 1:
		l := m.some(1, func() api.Node { return nd(api.NdDecl, m.name()) })
		return nd(api.NdLambda, "", append(l, m.expr(deep))...)
	}
	return m.expr(deep)
}

func (m *maker) subscript(deep int) api.Node {
	switch m.IntN(4) {
	case 0:
		return nd(api.NdQual, "", named("M"), named(m.name()))
	case 1:
		return m.expr(deep)
	case 2:
		return nd(api.NdTuple, "", m.some(0, func() api.Node { return m.expr(deep) })...)
	}
	return named(m.name())
}

func (m *maker) decl() api.Node { return api.Node{Kind: api.NdDecl, S: m.name(), N: m.IntN(3)} }

// definition makes a definition of a LET, or of a module.
func (m *maker) definition(deep int, unit bool) api.Node {
	var n api.Node
	switch m.IntN(4) {
	case 0:
		n = nd(api.NdFunDef, m.name(), append(m.some(1, func() api.Node { return m.bind(deep, true) }), m.expr(deep))...)
	case 1:
		n = nd(api.NdDefine, m.definable(), nd(api.NdDecl, m.name()), nd(api.NdDecl, m.name()), m.expr(deep))
	default:
		body := m.expr(deep)
		if unit && m.IntN(3) == 0 {
			body = m.instance(deep)
		}
		n = nd(api.NdDefine, m.name(), append(m.some(0, m.decl), body)...)
	}
	if unit {
		n.N = m.IntN(2)
	}
	return n
}

func (m *maker) instance(deep int) api.Node {
	return nd(api.NdInstance, m.name(), m.some(0, func() api.Node {
		s := m.name()
		if m.IntN(4) == 0 {
			s = m.definable()
		}
		return nd(api.NdSubst, s, m.argument(deep))
	})...)
}

func (m *maker) unit(deep int) api.Node {
	switch m.IntN(8) {
	case 0:
		return nd(m.either(api.NdConstants, api.NdRecursive), "", m.some(1, m.decl)...)
	case 1:
		return nd(api.NdVariables, "", m.some(1, func() api.Node {
			n := nd(api.NdVar, m.name())
			if m.IntN(2) == 0 {
				n.L = []api.Node{m.expr(deep)}
			}
			return n
		})...)
	case 2:
		return nd(m.either(api.NdAssume, api.NdTheorem), m.pick("", "A", "B"), m.expr(deep))
	case 3, 4:
		n := m.instance(deep)
		n.N = m.IntN(2)
		return n
	}
	return m.definition(deep, true)
}

func (m *maker) module(deep int) api.Node {
	n := nd(api.NdModule, m.name())
	if m.IntN(3) == 0 {
		n.L = append(n.L, nd(api.NdExtends, "", m.some(1, func() api.Node { return named(m.name()) })...))
	}
	n.L = append(n.L, m.some(0, func() api.Node { return m.unit(deep) })...)
	return n
}

// any makes an expression or a module.
func (m *maker) any(deep int) api.Node {
	if m.IntN(3) == 0 {
		return m.module(deep)
	}
	return m.expr(deep)
}
