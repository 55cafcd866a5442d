package show

import (
	"foregone/api"
	"foregone/parse"
)

func (e *emitter) module(n api.Node) {
	e.put(piece{Token: api.Token{Kind: api.TkRule}})
	e.word("MODULE")
	e.identifier(n.S)
	e.put(piece{Token: api.Token{Kind: api.TkRule}})
	for _, unit := range n.L {
		e.line = true
		e.node(unit)
	}
	e.line = true
	e.put(piece{Token: api.Token{Kind: api.TkClose}})
}

func (e *emitter) extends(n api.Node) { e.declaration("EXTENDS", n) }

func (e *emitter) constants(n api.Node) { e.declaration("CONSTANTS", n) }

func (e *emitter) variables(n api.Node) { e.declaration("VARIABLES", n) }

func (e *emitter) recursive(n api.Node) { e.declaration("RECURSIVE", n) }

// declaration writes a word and the elements of a unit behind it.
func (e *emitter) declaration(word string, n api.Node) {
	e.word(word)
	e.commas(n, 0, len(n.L))
}

func (e *emitter) assume(n api.Node) { e.statement("ASSUME", n) }

func (e *emitter) theorem(n api.Node) { e.statement("THEOREM", n) }

// statement writes a word and an expression, which may have a name.
func (e *emitter) statement(word string, n api.Node) {
	e.word(word)
	if n.S != "" {
		e.identifier(n.S)
		e.word("==")
	}
	e.last(n)
}

// local writes the word ahead of a definition or an instance that is local.
func (e *emitter) local(n api.Node) {
	if n.N == 1 {
		e.word("LOCAL")
	}
}

func (e *emitter) define(n api.Node) {
	e.local(n)
	params := len(n.L) - 1
	switch {
	case parse.Definable(n.S):
		e.between(n.S, n, 0, params)
	case params == 0:
		e.identifier(n.S)
	default:
		e.identifier(n.S)
		e.close("(")
		e.commas(n, 0, params)
		e.word(")")
	}
	e.word("==")
	e.last(n)
}

func (e *emitter) funDef(n api.Node) {
	e.local(n)
	e.identifier(n.S)
	e.close("[")
	e.commas(n, 0, len(n.L)-1)
	e.word("]")
	e.word("==")
	e.last(n)
}

func (e *emitter) instance(n api.Node) {
	e.local(n)
	e.word("INSTANCE")
	e.identifier(n.S)
	if len(n.L) > 0 {
		e.declaration("WITH", n)
	}
}

func (e *emitter) subst(n api.Node) {
	e.operatorName(n.S)
	e.word("<-")
	e.last(n)
}

func (e *emitter) decl(n api.Node) {
	e.identifier(n.S)
	if n.N == 0 {
		return
	}
	e.close("(")
	for i := range n.N {
		if i > 0 {
			e.word(",")
		}
		e.word("_")
	}
	e.word(")")
}

func (e *emitter) variable(n api.Node) {
	e.identifier(n.S)
	if len(n.L) > 0 {
		e.word(`\in`)
		e.last(n)
	}
}
