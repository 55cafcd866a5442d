package show

import "foregone/api"

func (e *emitter) name(n api.Node) { e.identifier(n.S) }

func (e *emitter) call(n api.Node) {
	e.identifier(n.S)
	e.close("(")
	e.commas(n, 0, len(n.L))
	e.word(")")
}

func (e *emitter) qual(n api.Node) {
	for i := range n.L {
		if i > 0 {
			e.close("!")
		}
		e.element(n, i)
	}
}

func (e *emitter) number(n api.Node) {
	e.put(piece{Token: api.Token{Kind: api.TkNumber, I: n.I}})
}

func (e *emitter) text(n api.Node) { e.put(piece{Token: api.Token{Kind: api.TkString, S: n.S}}) }

func (e *emitter) constant(n api.Node) { e.word(n.S) }

func (e *emitter) operator(n api.Node) { e.word(n.S) }

func (e *emitter) prefix(n api.Node) {
	e.open(n.S)
	e.element(n, 0)
}

func (e *emitter) infix(n api.Node) { e.between(n.S, n, 0, 2) }

func (e *emitter) product(n api.Node) { e.between(`\X`, n, 0, len(n.L)) }

func (e *emitter) prime(n api.Node) {
	e.element(n, 0)
	e.word("'")
}

func (e *emitter) junct(n api.Node) {
	e.lists++
	sign := wordPiece(n.S)
	sign.list = e.lists
	for i := range n.L {
		e.put(sign)
		e.element(n, i)
	}
}

func (e *emitter) quant(n api.Node) {
	e.word(n.S)
	e.bound(n, ":")
}

func (e *emitter) choose(n api.Node) {
	e.word("CHOOSE")
	e.bound(n, ":")
}

func (e *emitter) lambda(n api.Node) {
	e.word("LAMBDA")
	e.bound(n, ":")
}

// bound writes what is bound in a node, a sign, and the body.
func (e *emitter) bound(n api.Node, sign string) {
	e.commas(n, 0, len(n.L)-1)
	e.word(sign)
	e.last(n)
}

func (e *emitter) bind(n api.Node) {
	if n.N == 1 {
		e.word("<<")
	}
	e.commas(n, 0, len(n.L)-1)
	if n.N == 1 {
		e.word(">>")
	}
	e.word(`\in`)
	e.last(n)
}

func (e *emitter) set(n api.Node) {
	e.word("{")
	e.commas(n, 0, len(n.L))
	e.word("}")
}

func (e *emitter) tuple(n api.Node) {
	e.word("<<")
	e.commas(n, 0, len(n.L))
	e.word(">>")
}

func (e *emitter) filter(n api.Node) {
	e.word("{")
	e.bound(n, ":")
	e.word("}")
}

func (e *emitter) mapping(n api.Node) {
	e.word("{")
	e.element(n, 0)
	e.word(":")
	e.commas(n, 1, len(n.L))
	e.word("}")
}

func (e *emitter) fun(n api.Node) {
	e.word("[")
	e.bound(n, "|->")
	e.word("]")
}

func (e *emitter) funSet(n api.Node) {
	e.word("[")
	e.between("->", n, 0, 2)
	e.word("]")
}

func (e *emitter) record(n api.Node) { e.fields(n, "|->") }

func (e *emitter) recSet(n api.Node) { e.fields(n, ":") }

// fields writes the fields of a node, with a sign behind the name of each one.
func (e *emitter) fields(n api.Node, sign string) {
	e.word("[")
	for i, field := range n.L {
		if i > 0 {
			e.word(",")
		}
		e.identifier(field.S)
		e.word(sign)
		e.element(field, 0)
	}
	e.word("]")
}

func (e *emitter) except(n api.Node) {
	e.word("[")
	e.element(n, 0)
	e.word("EXCEPT")
	e.commas(n, 1, len(n.L))
	e.word("]")
}

func (e *emitter) update(n api.Node) {
	e.word("!")
	for i := range len(n.L) - 1 {
		e.element(n, i)
	}
	e.word("=")
	e.last(n)
}

func (e *emitter) step(n api.Node) {
	if n.S != "" {
		e.word(".")
		e.identifier(n.S)
		return
	}
	e.close("[")
	e.commas(n, 0, len(n.L))
	e.word("]")
}

func (e *emitter) index(n api.Node) {
	e.element(n, 0)
	e.close("[")
	e.commas(n, 1, len(n.L))
	e.word("]")
}

func (e *emitter) dot(n api.Node) {
	e.element(n, 0)
	e.word(".")
	e.identifier(n.S)
}

func (e *emitter) conditional(n api.Node) {
	e.word("IF")
	e.element(n, 0)
	e.word("THEN")
	e.element(n, 1)
	e.word("ELSE")
	e.element(n, 2)
}

func (e *emitter) cases(n api.Node) {
	e.word("CASE")
	e.between("[]", n, 0, len(n.L))
}

func (e *emitter) arm(n api.Node) {
	if n.N == 1 {
		e.word("OTHER")
	} else {
		e.element(n, 0)
	}
	e.word("->")
	e.last(n)
}

func (e *emitter) let(n api.Node) {
	e.word("LET")
	for i := range len(n.L) - 1 {
		e.element(n, i)
	}
	e.word("IN")
	e.last(n)
}

func (e *emitter) square(n api.Node) {
	e.word("[")
	e.between("]_", n, 0, 2)
}

func (e *emitter) angle(n api.Node) {
	e.word("<<")
	e.between(">>_", n, 0, 2)
}

func (e *emitter) fair(n api.Node) {
	e.word(n.S)
	e.element(n, 0)
	e.close("(")
	e.element(n, 1)
	e.word(")")
}
