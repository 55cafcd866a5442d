package parse

import "foregone/api"

// elements reads an opening sign and expressions behind it, none if the closing sign stands there.
func (p *parser) elements(closing string) []api.Node {
	p.take()
	if p.here() == closing {
		return nil
	}
	return list(p, (*parser).expr)
}

// angles reads a tuple, or an action in angle brackets with its subscript.
func (p *parser) angles() api.Node {
	from := p.at
	n := api.Node{Kind: api.NdTuple, L: p.elements(">>")}
	if len(n.L) == 1 && p.here() == ">>_" {
		p.take()
		n.Kind, n.L = api.NdAngle, append(n.L, p.subscript())
	} else {
		p.expect(">>")
	}
	return p.placed(n, from)
}

// braces reads a set.
func (p *parser) braces() api.Node {
	from := p.at
	p.take()
	n := api.Node{Kind: api.NdSet}
	if p.here() != "}" {
		n = p.inBraces()
	}
	p.expect("}")
	return p.placed(n, from)
}

// inBraces reads what stands in the braces of a set that is not empty.
func (p *parser) inBraces() api.Node {
	from := p.at
	first := p.expression()
	l := []api.Node{first.node}
	switch p.here() {
	case ",":
		p.take()
		return api.Node{Kind: api.NdSet, L: append(l, list(p, (*parser).expr)...)}
	case ":":
		p.take()
		if bind, ok := asBind(first.node); ok && first.from == from {
			return api.Node{Kind: api.NdFilter, L: []api.Node{bind, p.expr()}}
		}
		return api.Node{Kind: api.NdMap, L: append(l, list(p, (*parser).bind)...)}
	}
	return api.Node{Kind: api.NdSet, L: l}
}

// asBind returns the binder that an expression could be read as.
func asBind(n api.Node) (api.Node, bool) {
	if n.Kind != api.NdInfix || n.S != `\in` {
		return api.Node{}, false
	}
	bind := api.Node{Kind: api.NdBind, At: n.At, End: n.End}
	names := []api.Node{n.L[0]}
	if n.L[0].Kind == api.NdTuple {
		bind.N, names = 1, n.L[0].L
	}
	for _, name := range names {
		if name.Kind != api.NdName {
			return api.Node{}, false
		}
		bind.L = append(bind.L, name)
	}
	bind.L = append(bind.L, n.L[1])
	return bind, len(names) > 0
}

// brackets reads a primary that begins with [.
func (p *parser) brackets() api.Node {
	from := p.at
	fun := p.hasArrow(from)
	p.take()
	var n api.Node
	switch {
	case p.isName() && p.word(p.at+1) == "|->":
		n = api.Node{Kind: api.NdRecord, L: p.fields("|->")}
	case p.isName() && p.word(p.at+1) == ":":
		n = api.Node{Kind: api.NdRecSet, L: p.fields(":")}
	case fun:
		n = p.function()
	default:
		n = p.inBrackets()
	}
	if n.Kind != api.NdSquare {
		p.expect("]")
	}
	return p.placed(n, from)
}

// fields reads fields, with a sign between the name of each one and what it has.
func (p *parser) fields(sign string) []api.Node {
	return list(p, func(p *parser) api.Node {
		from := p.at
		n := p.nameNode(api.NdField)
		p.expect(sign)
		n.L = []api.Node{p.expr()}
		return p.placed(n, from)
	})
}

// function reads what stands in the brackets of a function.
func (p *parser) function() api.Node {
	l := list(p, (*parser).bind)
	p.expect("|->")
	return api.Node{Kind: api.NdFun, L: append(l, p.expr())}
}

// inBrackets reads what stands in brackets that begin with an expression, with the subscript of an action.
func (p *parser) inBrackets() api.Node {
	first := p.expr()
	n := api.Node{L: []api.Node{first}}
	switch p.here() {
	case "->":
		p.take()
		n.Kind, n.L = api.NdFunSet, append(n.L, p.expr())
	case "]_":
		p.take()
		n.Kind, n.L = api.NdSquare, append(n.L, p.subscript())
	case "EXCEPT":
		p.take()
		n.Kind, n.L = api.NdExcept, append(n.L, list(p, (*parser).update)...)
	default:
		p.fail(api.ErrParse)
	}
	return n
}

// update reads an update of EXCEPT.
func (p *parser) update() api.Node {
	from := p.at
	p.expect("!")
	l := []api.Node{p.step()}
	for p.here() == "[" || p.here() == "." {
		l = append(l, p.step())
	}
	p.expect("=")
	return p.placed(api.Node{Kind: api.NdUpdate, L: append(l, p.expr())}, from)
}

// step reads a step of an update.
func (p *parser) step() api.Node {
	from := p.at
	n := api.Node{Kind: api.NdStep}
	if p.here() == "." {
		p.take()
		n.S = p.name()
	} else {
		n.L = p.indices()
	}
	return p.placed(n, from)
}

// arrows says in which brackets |-> stands, within no brackets of their own.
type arrows struct {
	within map[int]bool // by the index of the opening token
	looked int          // the tokens ahead of this one have been looked at
}

// hasArrow reports whether |-> stands directly within the bracket that the token at opens, ahead of the token that closes it.
func (p *parser) hasArrow(at int) bool {
	if at >= p.looked {
		p.lookThrough(at)
	}
	return p.within[at]
}

// lookThrough looks at all tokens up to the one that closes the bracket that the token at opens: the brackets within need no look of their own.
func (p *parser) lookThrough(at int) {
	var open []int
	for i, t := range p.tokens[at:] {
		p.looked = at + i + 1
		if t.Kind != api.TkSign {
			continue
		}
		switch t.S {
		case "(", "[", "{", "<<":
			open = append(open, at+i)
		case ")", "]", "]_", "}", ">>", ">>_":
			open = open[:len(open)-1]
		case "|->":
			p.within[open[len(open)-1]] = true
		}
		if len(open) == 0 {
			return
		}
	}
}
