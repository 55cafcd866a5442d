package parse_test

import (
	"math"
	"slices"
	"strings"
	"testing"

	"foregone/api"
	"foregone/parse"
)

// node returns a node with S and elements.
func node(kind int, s string, l ...api.Node) api.Node { return api.Node{Kind: kind, S: s, L: l} }

// numbered returns a node with another N.
func numbered(number int, n api.Node) api.Node {
	n.N = number
	return n
}

var (
	a    = node(api.NdName, "a")
	b    = node(api.NdName, "b")
	c    = node(api.NdName, "c")
	decl = node(api.NdDecl, "d")
	bind = node(api.NdBind, "", a, b)
	pair = numbered(1, node(api.NdBind, "", a, b, a))
	sign = node(api.NdSign, "+")
	fn   = node(api.NdLambda, "", decl, a)
	inst = node(api.NdInstance, "M")
	def  = node(api.NdDefine, "D", a)
)

func integer(parts ...int) api.Int { return api.Int{D: parts} }

// isWell reports whether a node is well-formed where its kind may stand.
func isWell(n api.Node) bool {
	switch {
	case n.Kind == api.NdModule:
		return parse.Check(n) == api.OK
	case n.Kind == api.NdExtends:
		return parse.Check(node(api.NdModule, "M", n)) == api.OK
	case n.Kind < api.NdSubst:
		return parse.Check(node(api.NdModule, "M", def, n, def)) == api.OK
	}
	switch n.Kind {
	case api.NdSubst:
		return isWell(node(api.NdInstance, "M", n))
	case api.NdDecl:
		return isWell(node(api.NdConstants, "", n))
	case api.NdVar:
		return isWell(node(api.NdVariables, "", n))
	case api.NdBind:
		return isWell(node(api.NdFun, "", n, a))
	case api.NdField:
		return isWell(node(api.NdRecord, "", n))
	case api.NdUpdate:
		return isWell(node(api.NdExcept, "", a, n))
	case api.NdStep:
		return isWell(node(api.NdUpdate, "", n, a))
	case api.NdArm:
		return isWell(node(api.NdCase, "", node(api.NdArm, "", a, b), n))
	case api.NdLambda, api.NdSign:
		return isWell(node(api.NdCall, "f", n))
	}
	return parse.IsExpr(n)
}

// good are well-formed nodes: all kinds, and for each one all forms.
func good() []api.Node {
	step, arm, field := node(api.NdStep, "", a), node(api.NdArm, "", a, b), node(api.NdField, "a", b)
	update := node(api.NdUpdate, "", step, a)
	long, infix := strings.Repeat("n", api.MaxName), node(api.NdDefine, "(+)", decl, decl, a)
	return []api.Node{
		node(api.NdModule, "M"), node(api.NdModule, "M", def, def), node(api.NdModule, long, node(api.NdExtends, "", a), def), node(api.NdExtends, "", a), node(api.NdExtends, "", a, b, a),
		node(api.NdConstants, "", decl), node(api.NdConstants, "", decl, numbered(2, decl), decl), node(api.NdRecursive, "", decl), node(api.NdRecursive, "", numbered(1, decl), decl), node(api.NdVariables, "", node(api.NdVar, "x")), node(api.NdVariables, "", node(api.NdVar, "x", a), node(api.NdVar, "x")),
		node(api.NdAssume, "", a), node(api.NdAssume, "A", a), node(api.NdTheorem, "", a), node(api.NdTheorem, "T", a), def, numbered(1, def), node(api.NdDefine, "F", decl, numbered(3, decl), a), infix, numbered(1, infix), node(api.NdDefine, "I", inst), numbered(1, node(api.NdDefine, "I", decl, numbered(1, decl), inst)),
		node(api.NdFunDef, "f", bind, a), numbered(1, node(api.NdFunDef, "f", bind, pair, a)), inst, numbered(1, inst), node(api.NdInstance, "M", node(api.NdSubst, "a", b), node(api.NdSubst, "a", b)), node(api.NdSubst, "a", b), node(api.NdSubst, "(+)", sign), node(api.NdSubst, "a", fn), node(api.NdSubst, "^^", b),
		decl, numbered(1, decl), numbered(math.MaxInt, decl), node(api.NdDecl, "1a"), node(api.NdVar, "x"), node(api.NdVar, "x", a),
		a, node(api.NdName, long), node(api.NdName, "_x"), node(api.NdCall, "f", a), node(api.NdCall, "f", a, sign, fn, b), node(api.NdQual, "", a, b), node(api.NdQual, "", a, node(api.NdCall, "f", sign), b),
		{Kind: api.NdNumber}, {Kind: api.NdNumber, I: integer(7, 1)}, {Kind: api.NdNumber, I: integer(slices.Repeat([]int{1}, api.MaxParts)...)}, node(api.NdString, ""), node(api.NdString, "a~ \t\n\f\r\"\\"), node(api.NdString, strings.Repeat("s", api.MaxStr)),
		node(api.NdWord, "TRUE"), node(api.NdWord, "FALSE"), node(api.NdWord, "BOOLEAN"), node(api.NdWord, "STRING"), node(api.NdWord, "@"), node(api.NdPrefix, "-", a), node(api.NdPrefix, "ENABLED", a), node(api.NdPrefix, "[]", a), node(api.NdInfix, "-", a, b), node(api.NdInfix, "(+)", a, b), node(api.NdInfix, `\in`, a, b), node(api.NdPrime, "", a), node(api.NdJunct, `/\`, a), node(api.NdJunct, `\/`, a, b, c),
		node(api.NdQuant, `\A`, bind, a), node(api.NdQuant, `\E`, bind, pair, bind, a), node(api.NdChoose, "", bind, a), node(api.NdChoose, "", pair, a), bind, pair, node(api.NdBind, "", a, a, b), numbered(1, bind),
		node(api.NdSet, ""), node(api.NdSet, "", a, b, a), node(api.NdFilter, "", bind, a), node(api.NdFilter, "", pair, a), node(api.NdFilter, "", numbered(1, bind), a), node(api.NdMap, "", a, bind), node(api.NdMap, "", a, pair, node(api.NdBind, "", a, a, b)), node(api.NdFun, "", bind, a), node(api.NdFun, "", pair, bind, a), node(api.NdFunSet, "", a, b),
		node(api.NdRecord, "", field), node(api.NdRecord, "", field, field), node(api.NdRecSet, "", field), node(api.NdRecSet, "", field, field), field, node(api.NdExcept, "", a, update), node(api.NdExcept, "", a, update, update), update, node(api.NdUpdate, "", step, node(api.NdStep, "f"), a), step, node(api.NdStep, "", a, b), node(api.NdStep, "f"),
		node(api.NdIndex, "", a, b), node(api.NdIndex, "", a, b, c), node(api.NdDot, "f", a), node(api.NdTuple, ""), node(api.NdTuple, "", a, b), node(api.NdProduct, "", a, b), node(api.NdProduct, "", a, b, c), node(api.NdIf, "", a, b, c), node(api.NdCase, "", arm), node(api.NdCase, "", arm, arm), node(api.NdCase, "", arm, numbered(1, node(api.NdArm, "", a))), arm, numbered(1, node(api.NdArm, "", a)),
		node(api.NdLet, "", def, a), node(api.NdLet, "", infix, node(api.NdFunDef, "f", bind, a), def, a), node(api.NdSquare, "", a, node(api.NdInfix, "+", a, b)), node(api.NdAngle, "", a, b), node(api.NdFair, "WF_", a, b), node(api.NdFair, "SF_", a, b), fn, node(api.NdLambda, "", decl, decl, a), sign, node(api.NdSign, `\in`),
	}
}

// bad are nodes that are not well-formed.
func bad() []api.Node {
	step, arm, field := node(api.NdStep, "", a), node(api.NdArm, "", a, b), node(api.NdField, "a", b)
	update, infix, other := node(api.NdUpdate, "", step, a), node(api.NdDefine, "(+)", decl, decl, a), numbered(1, node(api.NdArm, "", a))
	list := []api.Node{
		{}, {Kind: 51}, {Kind: -1}, {Kind: math.MaxInt},
		node(api.NdModule, ""), node(api.NdModule, "M", a), node(api.NdModule, "M", decl), node(api.NdModule, "M", def, node(api.NdExtends, "", a)), node(api.NdModule, "M", node(api.NdExtends, "", a), node(api.NdExtends, "", a)), node(api.NdModule, "M", node(api.NdModule, "N")), node(api.NdModule, "M", fn), node(api.NdModule, "M!N"), node(api.NdModule, "M", api.Node{}),
		node(api.NdExtends, ""), node(api.NdExtends, "", decl), node(api.NdExtends, "", node(api.NdQual, "", a, b)), node(api.NdConstants, ""), node(api.NdConstants, "", a), node(api.NdConstants, "", decl, bind), node(api.NdRecursive, ""), node(api.NdRecursive, "", a), node(api.NdVariables, ""), node(api.NdVariables, "", decl), node(api.NdVariables, "", a),
		node(api.NdAssume, ""), node(api.NdAssume, "", a, b), node(api.NdAssume, "+", a), node(api.NdAssume, "", fn), node(api.NdTheorem, "T"), node(api.NdTheorem, "T", a, b), node(api.NdTheorem, "", inst),
		node(api.NdDefine, "D"), node(api.NdDefine, "", a), node(api.NdDefine, "D", a, b), node(api.NdDefine, "D", decl), node(api.NdDefine, "D", bind, a), node(api.NdDefine, "D", fn), node(api.NdDefine, "D", sign), node(api.NdDefine, "D", numbered(-1, decl), a), node(api.NdDefine, "D", numbered(1, inst)), node(api.NdDefine, "D", inst, a), node(api.NdDefine, "D", inst, inst), node(api.NdDefine, "D!E", a),
		node(api.NdDefine, "(+)", a), node(api.NdDefine, "(+)", decl, a), node(api.NdDefine, "(+)", decl, decl, decl, a), node(api.NdDefine, "(+)", decl, numbered(1, decl), a), node(api.NdDefine, "(+)", decl, decl, inst), node(api.NdDefine, "+", decl, decl, a), node(api.NdDefine, `\X`, decl, decl, a), node(api.NdDefine, "-", decl, a), node(api.NdDefine, "(+)", a, a, a),
		node(api.NdFunDef, "f", a), node(api.NdFunDef, "f", bind), node(api.NdFunDef, "f", bind, inst), node(api.NdFunDef, "(+)", bind, a), node(api.NdFunDef, "", bind, a), node(api.NdFunDef, "f", a, bind), node(api.NdFunDef, "f", decl, a), node(api.NdFunDef, "f"),
		node(api.NdInstance, ""), node(api.NdInstance, "(+)"), node(api.NdInstance, "M", a), node(api.NdInstance, "M", decl), node(api.NdSubst, "a"), node(api.NdSubst, "a", b, b), node(api.NdSubst, "", b), node(api.NdSubst, "+", b), node(api.NdSubst, `\X`, b), node(api.NdSubst, "a", decl), node(api.NdSubst, "a", inst), node(api.NdSubst, "a!b", a), node(api.NdDecl, ""), node(api.NdDecl, "(+)"), node(api.NdDecl, "d", a), node(api.NdVar, ""), node(api.NdVar, "x", a, b), node(api.NdVar, "x", fn), node(api.NdVar, "+"),
		node(api.NdName, ""), node(api.NdName, "+"), node(api.NdName, "IF"), node(api.NdName, "1"), node(api.NdName, "_"), node(api.NdName, "__"), node(api.NdName, "WF_"), node(api.NdName, "WF_x"), node(api.NdName, "a b"), node(api.NdName, " a"), node(api.NdName, "a "), node(api.NdName, "a!b"), node(api.NdName, strings.Repeat("n", 41)), node(api.NdName, strings.Repeat("a ", 50000)), node(api.NdName, "\xc3\xa9"), node(api.NdName, "a(**)"), node(api.NdName, "a", b),
		node(api.NdCall, "f"), node(api.NdCall, "", a), node(api.NdCall, "+", a, b), node(api.NdCall, "f", decl), node(api.NdCall, "f", a, bind), node(api.NdCall, "f", numbered(1, sign)), node(api.NdQual, ""), node(api.NdQual, "", a), node(api.NdQual, "", a, node(api.NdQual, "", a, b)), node(api.NdQual, "", a, node(api.NdString, "a")), node(api.NdQual, "", sign, a),
		{Kind: api.NdNumber, I: integer(0)}, {Kind: api.NdNumber, I: integer(-1)}, {Kind: api.NdNumber, I: integer(api.Base)}, {Kind: api.NdNumber, I: api.Int{Neg: true}}, {Kind: api.NdNumber, I: api.Int{Neg: true, D: []int{1}}}, {Kind: api.NdNumber, I: integer(slices.Repeat([]int{1}, api.MaxParts+1)...)}, node(api.NdNumber, "1"), node(api.NdNumber, "", a),
		node(api.NdString, "\x00"), node(api.NdString, "\x0b"), node(api.NdString, "\x7f"), node(api.NdString, "\x80"), node(api.NdString, strings.Repeat("s", api.MaxStr+1)), node(api.NdString, "", a), node(api.NdWord, ""), node(api.NdWord, "true"), node(api.NdWord, "IF"), node(api.NdWord, "OTHER"), node(api.NdWord, "TRUE", a),
		node(api.NdPrefix, "", a), node(api.NdPrefix, "+", a), node(api.NdPrefix, `\lnot`, a), node(api.NdPrefix, "'", a), node(api.NdPrefix, "~"), node(api.NdPrefix, "~", a, b), node(api.NdPrefix, "~", decl), node(api.NdInfix, "", a, b), node(api.NdInfix, "~", a, b), node(api.NdInfix, `\X`, a, b), node(api.NdInfix, `\land`, a, b), node(api.NdInfix, "+", a), node(api.NdInfix, "+", a, b, c), node(api.NdInfix, "+", a, sign), node(api.NdInfix, "!", a, b), node(api.NdPrime, ""), node(api.NdPrime, "", a, b), node(api.NdPrime, "'", a), node(api.NdPrime, "", bind),
		node(api.NdJunct, `/\`), node(api.NdJunct, "", a), node(api.NdJunct, "+", a, b), node(api.NdJunct, `\land`, a), node(api.NdJunct, `/\`, a, fn), node(api.NdQuant, `\A`, a), node(api.NdQuant, `\A`, bind), node(api.NdQuant, `\AA`, bind, a), node(api.NdQuant, "", bind, a), node(api.NdQuant, `\A`, a, a), node(api.NdQuant, `\A`, bind, a, a), node(api.NdQuant, `\A`),
		node(api.NdChoose, "", bind), node(api.NdChoose, "", bind, bind, a), node(api.NdChoose, "", node(api.NdBind, "", a, a, b), a), node(api.NdChoose, "", a, a), node(api.NdChoose, "", bind, a, a), node(api.NdChoose, ""), node(api.NdBind, "", a), node(api.NdBind, ""), node(api.NdBind, "", a, bind), node(api.NdBind, "", node(api.NdNumber, ""), a), node(api.NdBind, "", decl, a), numbered(1, node(api.NdBind, "", a)), node(api.NdBind, "", node(api.NdCall, "f", a), a),
		node(api.NdSet, "", bind), node(api.NdSet, "", sign), node(api.NdFilter, "", bind), node(api.NdFilter, "", node(api.NdBind, "", a, a, b), a), node(api.NdFilter, "", a, a), node(api.NdFilter, "", a, bind), node(api.NdFilter, "", bind, a, a), node(api.NdFilter, ""), node(api.NdMap, "", a), node(api.NdMap, "", bind, a), node(api.NdMap, "", a, a), node(api.NdMap, "", a, bind, a), node(api.NdMap, ""), node(api.NdFun, "", a), node(api.NdFun, "", bind), node(api.NdFun, "", a, bind), node(api.NdFunSet, "", a), node(api.NdFunSet, "", a, b, c), node(api.NdFunSet, "", a, bind),
		node(api.NdRecord, ""), node(api.NdRecord, "", a), node(api.NdRecSet, ""), node(api.NdRecSet, "", field, a), node(api.NdField, "a"), node(api.NdField, "", a), node(api.NdField, "+", a), node(api.NdField, "a", a, a), node(api.NdField, "a!b", a), node(api.NdExcept, "", a), node(api.NdExcept, "", update), node(api.NdExcept, "", a, b), node(api.NdExcept, "", a, update, a), node(api.NdExcept, ""), node(api.NdUpdate, "", a), node(api.NdUpdate, "", step), node(api.NdUpdate, "", a, step), node(api.NdUpdate, "", step, a, a), node(api.NdStep, ""), node(api.NdStep, "f", a), node(api.NdStep, "+"), node(api.NdStep, "", fn),
		node(api.NdIndex, "", a), node(api.NdIndex, ""), node(api.NdIndex, "", a, sign), node(api.NdDot, "", a), node(api.NdDot, "f"), node(api.NdDot, "f", a, a), node(api.NdDot, "1", a), node(api.NdTuple, "", bind), node(api.NdProduct, "", a), node(api.NdProduct, ""), node(api.NdProduct, `\X`, a, b), node(api.NdIf, "", a, b), node(api.NdIf, "", a, b, c, a), node(api.NdIf, "", a, b, sign),
		node(api.NdCase, ""), node(api.NdCase, "", a), node(api.NdCase, "", other), node(api.NdCase, "", other, arm), node(api.NdCase, "", arm, other, arm), node(api.NdCase, "", arm, other, other), node(api.NdCase, "", numbered(1, arm)), node(api.NdArm, "", a), node(api.NdArm, "", a, a, a), numbered(1, arm), numbered(2, node(api.NdArm, "")), node(api.NdArm, "", a, bind), node(api.NdArm, "OTHER", a, a),
		node(api.NdLet, "", a), node(api.NdLet, "", def), node(api.NdLet, "", a, def), node(api.NdLet, "", numbered(1, def), a), node(api.NdLet, "", numbered(1, node(api.NdFunDef, "f", bind, a)), a), node(api.NdLet, "", node(api.NdDefine, "D", inst), a), node(api.NdLet, "", node(api.NdDefine, "D"), a), node(api.NdLet, "", node(api.NdRecursive, "", decl), a), node(api.NdLet, "", inst, a), node(api.NdLet, "", numbered(1, infix), a), node(api.NdLet, ""),
		node(api.NdSquare, "", a), node(api.NdSquare, "", a, b, c), node(api.NdSquare, "", a, fn), node(api.NdAngle, "", a), node(api.NdAngle, "", a, b, c), node(api.NdFair, "", a, b), node(api.NdFair, "WF", a, b), node(api.NdFair, "WF_", a), node(api.NdFair, "SF_", a, b, c), node(api.NdLambda, "", a), node(api.NdLambda, "", decl), node(api.NdLambda, "", numbered(1, decl), a), node(api.NdLambda, "", a, a), node(api.NdLambda, ""), node(api.NdLambda, "", decl, fn), node(api.NdSign, ""), node(api.NdSign, `\X`), node(api.NdSign, "~"), node(api.NdSign, "+", a), node(api.NdSign, "a"), node(api.NdSign, `\land`),
	}
	for _, n := range good() { // with a field that its kind does not have
		list = append(list, numbered(-1, n), numbered(math.MinInt, n))
		if n.Kind != api.NdDecl {
			list = append(list, numbered(2, n))
		}
		if !slices.Contains([]int{api.NdDefine, api.NdFunDef, api.NdInstance, api.NdDecl, api.NdBind, api.NdArm}, n.Kind) {
			list = append(list, numbered(1, n))
		}
		if n.Kind != api.NdNumber {
			for _, i := range []api.Int{integer(1), integer(0), {Neg: true}} {
				n.I = i
				list = append(list, n)
			}
			n.I = api.Int{}
		}
		n.S += "?"
		list = append(list, n)
	}
	return slices.DeleteFunc(list, func(n api.Node) bool {
		return n.Kind == api.NdString && strings.HasSuffix(n.S, "?") && len(n.S) <= api.MaxStr
	})
}

// P3.3

func TestWellFormed(t *testing.T) {
	kinds := map[int]bool{}
	for _, n := range good() {
		if !isWell(n) {
			t.Errorf("not well-formed: %s", brief(n))
		}
		kinds[n.Kind] = true
	}
	if len(kinds) != 50 {
		t.Errorf("%d kinds", len(kinds))
	}
	for _, n := range bad() {
		if isWell(n) {
			t.Errorf("well-formed: %.100s %v", brief(n), n.I)
		}
	}
}

// TestWhere checks which nodes are modules, expressions and flat modules by themselves.
func TestWhere(t *testing.T) {
	parts := []int{api.NdBind, api.NdField, api.NdUpdate, api.NdStep, api.NdArm, api.NdLambda, api.NdSign}
	for _, n := range good() {
		n.At, n.End = math.MaxInt, -1 // places do not matter
		if is := n.Kind >= api.NdName && !slices.Contains(parts, n.Kind); parse.IsExpr(n) != is {
			t.Errorf("IsExpr of %s: %v", brief(n), !is)
		}
		if is := n.Kind == api.NdModule; (parse.Check(n) == api.OK) != is || !is && parse.Check(n) != api.ErrTree {
			t.Errorf("Check of %s: %d", brief(n), parse.Check(n))
		}
		if is := n.Kind == api.NdModule && !has(n, api.NdExtends); parse.IsFlat(n) != is {
			t.Errorf("IsFlat of %s: %v", brief(n), !is)
		}
		// As an element of an expression, and of a module.
		if is := parse.IsExpr(n); parse.IsExpr(node(api.NdPrime, "", n)) != is {
			t.Errorf("within an expression: %s: %v", brief(n), !is)
		}
		if is := n.Kind > api.NdModule && n.Kind <= api.NdInstance; (parse.Check(node(api.NdModule, "M", n)) == api.OK) != is {
			t.Errorf("within a module: %s: %v", brief(n), !is)
		}
	}
}

func TestFlat(t *testing.T) {
	qualified := node(api.NdName, "A!b!c")
	long := strings.Repeat("a!", 19) + "bb" // 40 bytes
	letIn := func(d api.Node) api.Node { return node(api.NdAssume, "", node(api.NdLet, "", d, a)) }
	for _, n := range []api.Node{
		def, node(api.NdConstants, "", decl), node(api.NdConstants, "", node(api.NdDecl, "A!b")), node(api.NdVariables, "", node(api.NdVar, "x", qualified)), node(api.NdAssume, "A", qualified), node(api.NdRecursive, "", numbered(2, node(api.NdDecl, "A!b"))), node(api.NdDefine, "A!b", a), node(api.NdDefine, "A!b", node(api.NdDecl, "c!d"), a), node(api.NdDefine, "D", node(api.NdName, long)), node(api.NdFunDef, "A!f", bind, a), node(api.NdFunDef, "f", node(api.NdBind, "", qualified, a), a),
		node(api.NdDefine, "D", node(api.NdCall, "A!f", a, sign, fn)), node(api.NdDefine, "D", node(api.NdCall, "f", node(api.NdLambda, "", node(api.NdDecl, "A!d"), a))), node(api.NdDefine, "(+)", decl, node(api.NdDecl, "A!d"), a), letIn(node(api.NdDefine, "A!b", a)), letIn(node(api.NdFunDef, "A!b", bind, a)), node(api.NdDefine, "A!x2b", a),
	} {
		if !parse.IsFlat(node(api.NdModule, "M", n, n)) {
			t.Errorf("not flat: %s", brief(n))
		}
		if is := !strings.Contains(brief(n), "!"); (parse.Check(node(api.NdModule, "M", n)) == api.OK) != is {
			t.Errorf("Check of %s: %v", brief(n), !is)
		}
	}
	for _, n := range []api.Node{
		node(api.NdExtends, "", a), inst, numbered(1, inst), node(api.NdTheorem, "", a), numbered(1, def), numbered(1, node(api.NdFunDef, "f", bind, a)), node(api.NdDefine, "I", inst), node(api.NdDefine, "D", node(api.NdQual, "", a, b)), node(api.NdDefine, "D", node(api.NdPrime, "", node(api.NdQual, "", a, b))),
		node(api.NdVariables, "", node(api.NdVar, "A!x")), node(api.NdAssume, "A!b", a), node(api.NdDefine, "D", node(api.NdDot, "A!b", a)), node(api.NdDefine, "D", node(api.NdRecord, "", node(api.NdField, "A!b", a))), node(api.NdDefine, "D", node(api.NdExcept, "", a, node(api.NdUpdate, "", node(api.NdStep, "A!b"), a))),
		node(api.NdDefine, "A!", a), node(api.NdDefine, "!b", a), node(api.NdDefine, "A!!b", a), node(api.NdDefine, "!", a), node(api.NdDefine, "A!(+)", decl, decl, a), node(api.NdDefine, "A!1", a), node(api.NdDefine, "A!IF", a), node(api.NdDefine, "A! b", a), node(api.NdDefine, "D", node(api.NdName, long+"b")), node(api.NdDefine, "D", node(api.NdName, "")), node(api.NdDefine, "D", node(api.NdName, "A!WF_x")), a, {}, node(api.NdModule, "N"),
	} {
		if parse.IsFlat(node(api.NdModule, "M", def, n)) || parse.IsFlat(node(api.NdModule, "M", n)) {
			t.Errorf("flat: %s", brief(n))
		}
	}
	if parse.IsFlat(node(api.NdModule, "A!M", def)) || parse.IsFlat(def) || parse.IsFlat(a) {
		t.Error("flat, but no module with a name")
	}
	for seed := range uint64(3000) {
		n, _, e := parse.Module(randomModule(seed))
		if e != api.OK {
			continue
		}
		is := true
		walk(n, func(n api.Node) {
			switch n.Kind {
			case api.NdExtends, api.NdInstance, api.NdTheorem, api.NdQual:
				is = false
			case api.NdDefine, api.NdFunDef:
				is = is && n.N == 0
			}
		})
		if parse.IsFlat(n) != is {
			t.Errorf("IsFlat of %s: %v", brief(n), !is)
		}
	}
}

// chain returns a tree of some depth.
func chain(deep int) api.Node {
	n := a
	for range deep - 1 {
		n = node(api.NdPrime, "", n)
	}
	return n
}

func TestLimitsOfTrees(t *testing.T) {
	set := func(count int) api.Node { return node(api.NdSet, "", slices.Repeat([]api.Node{a}, count-1)...) }
	module := func(n api.Node) api.Node { return node(api.NdModule, "M", node(api.NdAssume, "", n)) }
	for _, x := range []struct {
		n  api.Node
		is bool
	}{{set(api.MaxTokens), true}, {set(api.MaxTokens + 1), false}, {chain(api.MaxDeepN), true}, {chain(api.MaxDeepN + 1), false}, {chain(60000), false}} {
		if parse.IsExpr(x.n) != x.is {
			t.Errorf("IsExpr: %v", !x.is)
		}
	}
	for _, x := range []struct {
		n  api.Node
		is bool
	}{{set(api.MaxTokens - 2), true}, {set(api.MaxTokens - 1), false}, {chain(api.MaxDeepN - 2), true}, {chain(api.MaxDeepN - 1), false}} {
		if parse.IsFlat(module(x.n)) != x.is || (parse.Check(module(x.n)) == api.OK) != x.is {
			t.Errorf("IsFlat, Check: %v", !x.is)
		}
	}
}

func TestBareAndSame(t *testing.T) {
	for _, text := range goodExprs(t, 2000, false) {
		n := tree(t, text)
		m := parse.Bare(n)
		walk(m, func(e api.Node) {
			if e.At != 0 || e.End != 0 {
				t.Errorf("Bare of the tree of %q: %v", text, e)
			}
		})
		if brief(m) != brief(n) || !parse.Same(m, n) || !parse.Same(n, n) || !equal(parse.Bare(m), m) || !equal(tree(t, text), n) {
			t.Errorf("Bare of the tree of %q: %s", text, brief(m))
		}
	}
	odd := api.Node{Kind: -7, N: -8, S: "?", I: api.Int{Neg: true, D: []int{-1, 0}}, L: []api.Node{{Kind: 99, At: -1, End: -2, L: []api.Node{{}}}}, At: 3, End: 4}
	if m := parse.Bare(odd); !parse.Same(m, odd) || m.At != 0 || m.End != 0 || m.L[0].At != 0 || m.L[0].End != 0 || m.I.D[0] != -1 || odd.L[0].At != -1 {
		t.Errorf("%v", m)
	}
	if !parse.Same(api.Node{L: []api.Node{}, I: api.Int{D: []int{}}}, api.Node{}) || !parse.Same(api.Node{}, api.Node{L: []api.Node{}}) {
		t.Error("an empty slice is no nil one")
	}
	other := []api.Node{{Kind: 1}, {N: 1}, {S: "a"}, {I: integer(1)}, {I: integer(2)}, {I: integer(1, 0)}, {I: api.Int{Neg: true}}, {L: []api.Node{{}}}, {L: []api.Node{{}, {}}}, {L: []api.Node{{Kind: 1}}}, {L: []api.Node{{L: []api.Node{{}}}}}, {L: []api.Node{{}, {S: "a"}}}, {L: []api.Node{{S: "a"}, {}}}, {}}
	for i, n := range other {
		for k, m := range other {
			m.At, m.End = k, -k
			if parse.Same(n, m) != (i == k) {
				t.Errorf("Same(%v, %v): %v", n, m, i != k)
			}
		}
	}
}

func TestSize(t *testing.T) {
	count := func(n api.Node) int {
		nodes := 0
		walk(n, func(api.Node) { nodes++ })
		return nodes
	}
	list := append(good(), api.Node{}, api.Node{L: []api.Node{{}, {L: []api.Node{{}}}}}, chain(60000), node(api.NdSet, "", slices.Repeat([]api.Node{chain(10)}, 30000)...))
	for _, text := range goodExprs(t, 1000, false) {
		list = append(list, tree(t, text))
	}
	for _, n := range list {
		if nodes, deep := parse.Size(n); nodes != count(n) || deep != depthOf(n) {
			t.Errorf("Size of %.60s: %d %d, want %d %d", brief(n), nodes, deep, count(n), depthOf(n))
		}
	}
	n := api.Node{}
	for deep := 1; deep <= 200; deep++ { // 2^deep - 1 nodes
		nodes, d := parse.Size(n)
		if d != deep || deep <= 60 && nodes != 1<<deep-1 || deep > 60 && nodes < 1<<60 {
			t.Errorf("Size of a tree with 2^%d - 1 nodes: %d %d", deep, nodes, d)
		}
		if deep > 20 && (parse.IsExpr(n) || parse.IsFlat(n) || parse.Check(n) != api.ErrTree) {
			t.Errorf("a tree with 2^%d - 1 nodes", deep)
		}
		l := []api.Node{n, n}
		n = node(api.NdTuple, "", l...)
	}
	l := []api.Node{a, chain(2), chain(3), chain(4)}
	if nodes, deep := parse.Size(api.Node{L: []api.Node{{L: l[:2]}, {L: l[1:]}, {L: l}, {L: l[:0]}}}); nodes != 5+3+9+10 || deep != 6 {
		t.Errorf("Size of lists that share elements: %d %d", nodes, deep)
	}
}
