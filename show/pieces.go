package show

import (
	"iter"

	"foregone/api"
	"foregone/parse"
)

// piece is a token of a tree, with what its place in the text depends on.
type piece struct {
	api.Token
	ahead  bool // whether no blank belongs ahead of it
	behind bool // whether no blank belongs behind it
	line   bool // whether it begins a line of a module
	list   int  // of the sign of an item: the number of its list, from 1 on, in the order in which lists begin
}

// pieces yields the tokens of a well-formed tree, with the parentheses that par says.
func pieces(n api.Node, par []bool) iter.Seq[piece] {
	return func(yield func(p piece) bool) {
		e := &emitter{kinds: emitters(), par: par, yield: yield}
		e.node(n)
	}
}

// emitter goes through a tree, and yields its tokens.
type emitter struct {
	kinds [kindCount]func(e *emitter, n api.Node)
	par   []bool // the parentheses at the places that are still to come
	lists int    // how many lists have begun
	line  bool   // whether the next token begins a line
	done  bool   // whether no more tokens are wanted
	yield func(p piece) bool
}

// kindCount is the number of the kinds of nodes, and of 0, which is none.
const kindCount = api.NdSign + 1

// emitters returns how nodes of each kind are written. (Fields are written by what they are fields of.)
func emitters() [kindCount]func(e *emitter, n api.Node) {
	return [kindCount]func(e *emitter, n api.Node){
		api.NdModule:    (*emitter).module,
		api.NdExtends:   (*emitter).extends,
		api.NdConstants: (*emitter).constants,
		api.NdVariables: (*emitter).variables,
		api.NdAssume:    (*emitter).assume,
		api.NdTheorem:   (*emitter).theorem,
		api.NdRecursive: (*emitter).recursive,
		api.NdDefine:    (*emitter).define,
		api.NdFunDef:    (*emitter).funDef,
		api.NdInstance:  (*emitter).instance,
		api.NdSubst:     (*emitter).subst,
		api.NdDecl:      (*emitter).decl,
		api.NdVar:       (*emitter).variable,
		api.NdName:      (*emitter).name,
		api.NdCall:      (*emitter).call,
		api.NdQual:      (*emitter).qual,
		api.NdNumber:    (*emitter).number,
		api.NdString:    (*emitter).text,
		api.NdWord:      (*emitter).constant,
		api.NdPrefix:    (*emitter).prefix,
		api.NdInfix:     (*emitter).infix,
		api.NdPrime:     (*emitter).prime,
		api.NdJunct:     (*emitter).junct,
		api.NdQuant:     (*emitter).quant,
		api.NdChoose:    (*emitter).choose,
		api.NdBind:      (*emitter).bind,
		api.NdSet:       (*emitter).set,
		api.NdFilter:    (*emitter).filter,
		api.NdMap:       (*emitter).mapping,
		api.NdFun:       (*emitter).fun,
		api.NdFunSet:    (*emitter).funSet,
		api.NdRecord:    (*emitter).record,
		api.NdRecSet:    (*emitter).recSet,
		api.NdExcept:    (*emitter).except,
		api.NdUpdate:    (*emitter).update,
		api.NdStep:      (*emitter).step,
		api.NdIndex:     (*emitter).index,
		api.NdDot:       (*emitter).dot,
		api.NdTuple:     (*emitter).tuple,
		api.NdProduct:   (*emitter).product,
		api.NdIf:        (*emitter).conditional,
		api.NdCase:      (*emitter).cases,
		api.NdArm:       (*emitter).arm,
		api.NdLet:       (*emitter).let,
		api.NdSquare:    (*emitter).square,
		api.NdAngle:     (*emitter).angle,
		api.NdFair:      (*emitter).fair,
		api.NdLambda:    (*emitter).lambda,
		api.NdSign:      (*emitter).operator,
	}
}

// node writes a node.
func (e *emitter) node(n api.Node) { e.kinds[n.Kind](e, n) }

// element writes the element i of a node, in parentheses if it is a place that has them.
func (e *emitter) element(n api.Node, i int) {
	if !isPlace(n, i) {
		e.node(n.L[i])
		return
	}
	par := e.par[0] || isForced(n, i)
	e.par = e.par[1:]
	if par {
		e.word("(")
	}
	e.node(n.L[i])
	if par {
		e.word(")")
	}
}

// last writes the last element of a node.
func (e *emitter) last(n api.Node) { e.element(n, len(n.L)-1) }

// commas writes the elements of a node from one up to another, with commas between them.
func (e *emitter) commas(n api.Node, from, to int) { e.between(",", n, from, to) }

// between writes the elements of a node from one up to another, with a sign between them.
func (e *emitter) between(sign string, n api.Node, from, to int) {
	for i := from; i < to; i++ {
		if i > from {
			e.word(sign)
		}
		e.element(n, i)
	}
}

// put yields a token.
func (e *emitter) put(p piece) {
	p.line = e.line
	e.line = false
	if !e.done {
		e.done = !e.yield(p)
	}
}

// identifier writes a name.
func (e *emitter) identifier(s string) { e.put(piece{Token: api.Token{Kind: api.TkName, S: s}}) }

// word writes a sign or a reserved word.
func (e *emitter) word(s string) { e.put(wordPiece(s)) }

// close writes a sign that belongs to what stands ahead of it.
func (e *emitter) close(s string) {
	p := wordPiece(s)
	p.ahead = true
	e.put(p)
}

// open writes a sign that belongs to what stands behind it.
func (e *emitter) open(s string) {
	p := wordPiece(s)
	p.behind = p.Kind == api.TkSign
	e.put(p)
}

// wordPiece returns a sign or a reserved word, with the blanks that it has wherever it stands.
func wordPiece(s string) piece {
	p := piece{Token: api.Token{Kind: api.TkSign, S: s}}
	if s[0] >= 'A' && s[0] <= 'Z' {
		p.Kind = api.TkKey
	}
	switch s {
	case "(", "[", "{", "<<", "!", "WF_", "SF_":
		p.behind = true
	case ")", "]", "}", ">>", ",", "'":
		p.ahead = true
	case "]_", ">>_", ".":
		p.ahead, p.behind = true, true
	}
	return p
}

// operatorName writes the name of an operator, or its sign.
func (e *emitter) operatorName(s string) {
	if parse.Definable(s) {
		e.word(s)
	} else {
		e.identifier(s)
	}
}
