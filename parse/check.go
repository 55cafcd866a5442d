package parse

import (
	"math"
	"slices"
	"strings"

	"foregone/api"
	"foregone/lex"
	"foregone/num"
)

// Check returns ErrTree unless n is a well-formed tree of a module.
func Check(n api.Node) api.Errno {
	if !isSmall(n) || !newChecker(false).is(api.NdModule)(n) {
		return api.ErrTree
	}
	return api.OK
}

// IsExpr reports whether n is a well-formed tree of an expression.
func IsExpr(n api.Node) bool { return isSmall(n) && newChecker(false).isExpr(n) }

// IsFlat reports whether n is the tree of a flat module: qualified names, no EXTENDS, INSTANCE, LOCAL or THEOREM.
func IsFlat(n api.Node) bool { return isSmall(n) && newChecker(true).is(api.NdModule)(n) }

// isSmall reports whether a tree has no more nodes, and is no deeper, than a well-formed one may be.
func isSmall(n api.Node) bool {
	nodes, deep := Size(n)
	return nodes <= api.MaxTokens && deep <= api.MaxDeepN
}

// checker tells which nodes are well-formed.
type checker struct {
	operators
	shapes map[int]shape
	names  map[string]bool // whether the texts that have been looked at are names
	flat   bool            // whether the tree is to be a flat module
}

// shape is what nodes of a kind are like.
type shape struct {
	text  func(c *checker, s string) bool   // what S may be
	most  int                               // the greatest N
	parts func(c *checker, n api.Node) bool // whether the elements are what they have to be
}

func newChecker(flat bool) *checker {
	c := &checker{operators: newOperators(), shapes: make(map[int]shape, api.NdSign), names: map[string]bool{}, flat: flat}
	addUnits(c.shapes)
	addParts(c.shapes)
	addExprs(c.shapes)
	addBinders(c.shapes)
	return c
}

// addUnits adds the shapes of modules and units.
func addUnits(shapes map[int]shape) {
	shapes[api.NdModule] = shape{(*checker).isName, 0, (*checker).hasUnits}
	shapes[api.NdExtends] = shape{noText, 0, each(1, ofKind(api.NdName))}
	shapes[api.NdConstants] = shape{noText, 0, each(1, ofKind(api.NdDecl))}
	shapes[api.NdVariables] = shape{noText, 0, each(1, ofKind(api.NdVar))}
	shapes[api.NdAssume] = shape{(*checker).isNameOrNone, 0, exprs(1)}
	shapes[api.NdTheorem] = shape{(*checker).isNameOrNone, 0, exprs(1)}
	shapes[api.NdRecursive] = shape{noText, 0, each(1, ofKind(api.NdDecl))}
	shapes[api.NdDefine] = shape{(*checker).isReplaceable, 1, (*checker).defines}
	shapes[api.NdFunDef] = shape{(*checker).isReference, 1, ahead(ofKind(api.NdBind))}
	shapes[api.NdInstance] = shape{(*checker).isName, 1, each(0, ofKind(api.NdSubst))}
}

// addParts adds the shapes of what is part of units or expressions.
func addParts(shapes map[int]shape) {
	shapes[api.NdSubst] = shape{(*checker).isReplaceable, 0, (*checker).substitutes}
	shapes[api.NdDecl] = shape{(*checker).isReference, math.MaxInt, exprs(0)}
	shapes[api.NdVar] = shape{(*checker).isName, 0, (*checker).hasType}
	shapes[api.NdBind] = shape{noText, 1, ahead(ofKind(api.NdName))}
	shapes[api.NdField] = shape{(*checker).isName, 0, exprs(1)}
	shapes[api.NdUpdate] = shape{noText, 0, ahead(ofKind(api.NdStep))}
	shapes[api.NdStep] = shape{(*checker).isNameOrNone, 0, (*checker).steps}
	shapes[api.NdArm] = shape{noText, 1, (*checker).hasArm}
	shapes[api.NdLambda] = shape{noText, 0, ahead((*checker).isPlainDecl)}
	shapes[api.NdSign] = shape{(*checker).isBinarySign, 0, exprs(0)}
}

// addExprs adds the shapes of expressions that bind no names.
func addExprs(shapes map[int]shape) {
	shapes[api.NdName] = shape{(*checker).isReference, 0, exprs(0)}
	shapes[api.NdCall] = shape{(*checker).isReference, 0, each(1, (*checker).isArgument)}
	shapes[api.NdQual] = shape{noText, 0, each(2, (*checker).isCalled)}
	shapes[api.NdNumber] = shape{noText, 0, exprs(0)}
	shapes[api.NdString] = shape{(*checker).isString, 0, exprs(0)}
	shapes[api.NdWord] = shape{oneOf("TRUE", "FALSE", "BOOLEAN", "STRING", "@"), 0, exprs(0)}
	shapes[api.NdPrefix] = shape{(*checker).isPrefixSign, 0, exprs(1)}
	shapes[api.NdInfix] = shape{(*checker).isBinarySign, 0, exprs(2)}
	shapes[api.NdPrime] = shape{noText, 0, exprs(1)}
	shapes[api.NdJunct] = shape{oneOf(`/\`, `\/`), 0, each(1, (*checker).isExpr)}
	shapes[api.NdSet] = shape{noText, 0, each(0, (*checker).isExpr)}
	shapes[api.NdFunSet] = shape{noText, 0, exprs(2)}
	shapes[api.NdRecord] = shape{noText, 0, each(1, ofKind(api.NdField))}
	shapes[api.NdRecSet] = shape{noText, 0, each(1, ofKind(api.NdField))}
	shapes[api.NdExcept] = shape{noText, 0, behind(ofKind(api.NdUpdate))}
	shapes[api.NdIndex] = shape{noText, 0, each(2, (*checker).isExpr)}
	shapes[api.NdDot] = shape{(*checker).isName, 0, exprs(1)}
	shapes[api.NdTuple] = shape{noText, 0, each(0, (*checker).isExpr)}
	shapes[api.NdProduct] = shape{noText, 0, each(2, (*checker).isExpr)}
	shapes[api.NdIf] = shape{noText, 0, exprs(3)}
	shapes[api.NdCase] = shape{noText, 0, (*checker).hasArms}
	shapes[api.NdSquare] = shape{noText, 0, exprs(2)}
	shapes[api.NdAngle] = shape{noText, 0, exprs(2)}
	shapes[api.NdFair] = shape{oneOf("WF_", "SF_"), 0, exprs(2)}
}

// addBinders adds the shapes of expressions that bind names.
func addBinders(shapes map[int]shape) {
	shapes[api.NdQuant] = shape{oneOf(`\A`, `\E`), 0, ahead(ofKind(api.NdBind))}
	shapes[api.NdChoose] = shape{noText, 0, (*checker).bindsOnce}
	shapes[api.NdFilter] = shape{noText, 0, (*checker).bindsOnce}
	shapes[api.NdMap] = shape{noText, 0, behind(ofKind(api.NdBind))}
	shapes[api.NdFun] = shape{noText, 0, ahead(ofKind(api.NdBind))}
	shapes[api.NdLet] = shape{noText, 0, ahead((*checker).isDefinition)}
}

// is returns what tells whether a node is of a kind, and well-formed.
func (c *checker) is(kind int) func(n api.Node) bool {
	return func(n api.Node) bool { return n.Kind == kind && c.fits(n) }
}

// fits reports whether a node is like those of its kind.
func (c *checker) fits(n api.Node) bool {
	s, ok := c.shapes[n.Kind]
	if !ok || n.N < 0 || n.N > s.most || c.flat && notFlat(n) {
		return false
	}
	return isNumberOf(n) && s.text(c, n.S) && s.parts(c, n)
}

// notFlat reports whether a node is well-formed nowhere in a flat module.
func notFlat(n api.Node) bool {
	switch n.Kind {
	case api.NdExtends, api.NdInstance, api.NdSubst, api.NdQual, api.NdTheorem:
		return true
	case api.NdDefine, api.NdFunDef:
		return n.N != 0
	}
	return false
}

// isNumberOf reports whether I is that of a number, or 0 in a node that is none.
func isNumberOf(n api.Node) bool {
	if n.Kind == api.NdNumber {
		return num.Check(n.I) == api.OK && num.Sign(n.I) >= 0
	}
	return len(n.I.D) == 0 && !n.I.Neg
}

// isExpr reports whether a node is a well-formed expression.
func (c *checker) isExpr(n api.Node) bool {
	switch n.Kind {
	case api.NdBind, api.NdField, api.NdUpdate, api.NdStep, api.NdArm:
		return false
	}
	return n.Kind >= api.NdName && n.Kind <= api.NdFair && c.fits(n)
}

func (c *checker) isArgument(n api.Node) bool {
	return n.Kind == api.NdLambda && c.fits(n) || n.Kind == api.NdSign && c.fits(n) || c.isExpr(n)
}

// isCalled reports whether a node is a name with arguments or without.
func (c *checker) isCalled(n api.Node) bool {
	return (n.Kind == api.NdName || n.Kind == api.NdCall) && c.fits(n)
}

func (c *checker) isPlainDecl(n api.Node) bool {
	return n.Kind == api.NdDecl && n.N == 0 && c.fits(n)
}

// isDefinition reports whether a node is a definition of a LET.
func (c *checker) isDefinition(n api.Node) bool {
	switch n.Kind {
	case api.NdDefine:
		return n.N == 0 && c.fits(n) && n.L[len(n.L)-1].Kind != api.NdInstance
	case api.NdFunDef:
		return n.N == 0 && c.fits(n)
	}
	return false
}

// hasUnits reports whether the elements are units of a module.
func (c *checker) hasUnits(n api.Node) bool {
	for i, u := range n.L {
		isUnit := u.Kind > api.NdExtends && u.Kind <= api.NdInstance || u.Kind == api.NdExtends && i == 0
		if !isUnit || !c.fits(u) {
			return false
		}
	}
	return true
}

// defines reports whether the elements are those of a definition of an operator.
func (c *checker) defines(n api.Node) bool {
	last := len(n.L) - 1
	if last < 0 {
		return false
	}
	params, body := n.L[:last], n.L[last]
	if c.isDefinable(n.S) {
		return last == 2 && all(params, c.isPlainDecl) && c.isExpr(body)
	}
	isInstance := body.Kind == api.NdInstance && body.N == 0 && c.fits(body)
	return all(params, c.is(api.NdDecl)) && (isInstance || c.isExpr(body))
}

func (c *checker) substitutes(n api.Node) bool { return len(n.L) == 1 && c.isArgument(n.L[0]) }

// hasType reports whether there is one element at most, an expression.
func (c *checker) hasType(n api.Node) bool { return len(n.L) <= 1 && all(n.L, c.isExpr) }

// steps reports whether there are expressions, or, in a step with a name, none.
func (c *checker) steps(n api.Node) bool {
	return (n.S == "") == (len(n.L) > 0) && all(n.L, c.isExpr)
}

// hasArm reports whether the elements are those of an arm, which has no guard if N is 1.
func (c *checker) hasArm(n api.Node) bool { return len(n.L) == 2-n.N && all(n.L, c.isExpr) }

// hasArms reports whether the elements are those of a CASE.
func (c *checker) hasArms(n api.Node) bool {
	for i, arm := range n.L {
		if arm.N == 1 && (i == 0 || i < len(n.L)-1) {
			return false
		}
	}
	return len(n.L) > 0 && all(n.L, c.is(api.NdArm))
}

// bindsOnce reports whether the elements are a binder with one name or one tuple, and an expression.
func (c *checker) bindsOnce(n api.Node) bool {
	if len(n.L) != 2 || !c.is(api.NdBind)(n.L[0]) {
		return false
	}
	bind := n.L[0]
	return (bind.N == 1 || len(bind.L) == 2) && c.isExpr(n.L[1])
}

// all reports whether all of a list are what is says.
func all(l []api.Node, is func(n api.Node) bool) bool {
	return !slices.ContainsFunc(l, func(n api.Node) bool { return !is(n) })
}

// ofKind returns what tells whether a node is of a kind, and well-formed.
func ofKind(kind int) func(c *checker, n api.Node) bool {
	return func(c *checker, n api.Node) bool { return c.is(kind)(n) }
}

// exprs returns what tells whether the elements are expressions, just so many.
func exprs(count int) func(c *checker, n api.Node) bool {
	return func(c *checker, n api.Node) bool { return len(n.L) == count && all(n.L, c.isExpr) }
}

// each returns what tells whether all elements are what is says, and there are enough of them.
func each(least int, is func(c *checker, n api.Node) bool) func(c *checker, n api.Node) bool {
	return func(c *checker, n api.Node) bool {
		return len(n.L) >= least && all(n.L, func(e api.Node) bool { return is(c, e) })
	}
}

// ahead returns what tells whether the elements are what is says, at least one, and an expression behind them.
func ahead(is func(c *checker, n api.Node) bool) func(c *checker, n api.Node) bool {
	return func(c *checker, n api.Node) bool {
		last := len(n.L) - 1
		return last >= 1 && all(n.L[:last], func(e api.Node) bool { return is(c, e) }) && c.isExpr(n.L[last])
	}
}

// behind returns what tells whether the elements are an expression, and behind it what is says, at least one.
func behind(is func(c *checker, n api.Node) bool) func(c *checker, n api.Node) bool {
	return func(c *checker, n api.Node) bool {
		return len(n.L) >= 2 && c.isExpr(n.L[0]) && all(n.L[1:], func(e api.Node) bool { return is(c, e) })
	}
}

// noText reports whether s is empty.
func noText(_ *checker, s string) bool { return s == "" }

// oneOf returns what tells whether a text is one of some words.
func oneOf(words ...string) func(c *checker, s string) bool {
	return func(_ *checker, s string) bool { return slices.Contains(words, s) }
}

// isName reports whether s is a name.
func (c *checker) isName(s string) bool {
	if len(s) > api.MaxName {
		return false
	}
	is, known := c.names[s]
	if !known {
		is = lex.Kind(s) == api.TkName
		c.names[s] = is
	}
	return is
}

func (c *checker) isNameOrNone(s string) bool { return s == "" || c.isName(s) }

// isReference reports whether s is a name, or, in a flat module, a qualified name.
func (c *checker) isReference(s string) bool {
	if !c.flat {
		return c.isName(s)
	}
	return len(s) <= api.MaxName && !slices.ContainsFunc(strings.Split(s, "!"), func(part string) bool { return !c.isName(part) })
}

// isReplaceable reports whether s can be defined, or replaced.
func (c *checker) isReplaceable(s string) bool { return c.isDefinable(s) || c.isReference(s) }

func (c *checker) isPrefixSign(s string) bool { return c.isPrefix(s) }

func (c *checker) isBinarySign(s string) bool { return c.isBinary(s) }

// isString reports whether s are the bytes of a string.
func (c *checker) isString(s string) bool {
	_, e := lex.Spell(api.Token{Kind: api.TkString, S: s})
	return e == api.OK
}
