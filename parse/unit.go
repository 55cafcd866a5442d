package parse

import "foregone/api"

// units returns how units are read that begin with a reserved word.
func units() map[string]func(p *parser) api.Node {
	return map[string]func(p *parser) api.Node{
		"CONSTANT":   (*parser).constants,
		"CONSTANTS":  (*parser).constants,
		"RECURSIVE":  (*parser).recursive,
		"VARIABLE":   (*parser).variables,
		"VARIABLES":  (*parser).variables,
		"ASSUME":     (*parser).assumption,
		"ASSUMPTION": (*parser).assumption,
		"AXIOM":      (*parser).assumption,
		"THEOREM":    (*parser).theorem,
		"LOCAL":      (*parser).local,
		"INSTANCE":   (*parser).instance,
	}
}

// module reads a module.
func (p *parser) module() api.Node {
	from := p.at
	p.expectKind(api.TkRule)
	p.expect("MODULE")
	n := api.Node{Kind: api.NdModule, S: p.name()}
	p.expectKind(api.TkRule)
	if p.here() == "EXTENDS" {
		n.L = append(n.L, p.extends())
	}
	for p.kind(p.at) != api.TkClose {
		if p.kind(p.at) == api.TkRule {
			p.take()
			continue
		}
		n.L = append(n.L, p.unit())
	}
	p.take()
	return p.placed(n, from)
}

func (p *parser) extends() api.Node {
	from := p.at
	p.expect("EXTENDS")
	return p.placed(api.Node{Kind: api.NdExtends, L: list(p, (*parser).plainName)}, from)
}

// unit reads a unit that has a node.
func (p *parser) unit() api.Node {
	if read, ok := p.units[p.here()]; ok {
		return read(p)
	}
	return p.definition((*parser).body)
}

func (p *parser) constants() api.Node { return p.declaration(api.NdConstants, (*parser).decl) }

func (p *parser) recursive() api.Node { return p.declaration(api.NdRecursive, (*parser).decl) }

func (p *parser) variables() api.Node { return p.declaration(api.NdVariables, (*parser).variable) }

// declaration reads a word and a list of what is declared.
func (p *parser) declaration(kind int, item func(p *parser) api.Node) api.Node {
	from := p.at
	p.take()
	return p.placed(api.Node{Kind: kind, L: list(p, item)}, from)
}

// decl reads a name that is declared, with a place for each of its arguments.
func (p *parser) decl() api.Node {
	from := p.at
	n := p.nameNode(api.NdDecl)
	if p.here() == "(" {
		p.take()
		n.N = len(list(p, (*parser).place))
		p.expect(")")
	}
	return p.placed(n, from)
}

// place reads the place of an argument, and returns its sign.
func (p *parser) place() string {
	p.expect("_")
	return "_"
}

func (p *parser) variable() api.Node {
	from := p.at
	n := p.nameNode(api.NdVar)
	if p.here() == `\in` {
		p.take()
		n.L = []api.Node{p.expr()}
	}
	return p.placed(n, from)
}

func (p *parser) assumption() api.Node { return p.statement(api.NdAssume) }

func (p *parser) theorem() api.Node { return p.statement(api.NdTheorem) }

// statement reads a word and an expression, which may have a name.
func (p *parser) statement(kind int) api.Node {
	from := p.at
	p.take()
	n := api.Node{Kind: kind}
	if p.isName() && p.word(p.at+1) == "==" {
		n.S = p.name()
		p.take()
	}
	n.L = []api.Node{p.expr()}
	return p.placed(n, from)
}

// local reads what stands behind LOCAL.
func (p *parser) local() api.Node {
	from := p.at
	p.expect("LOCAL")
	var n api.Node
	if p.here() == "INSTANCE" {
		n = p.instance()
	} else {
		n = p.definition((*parser).body)
	}
	n.N = 1
	return p.placed(n, from)
}

// definition reads a definition; body reads the body of an operator with a name.
func (p *parser) definition(body func(p *parser) api.Node) api.Node {
	from := p.at
	n := p.nameNode(api.NdDefine)
	here := p.here()
	switch {
	case here == "[":
		return p.functionDefinition(n.S, from)
	case p.isDefinable(here):
		return p.infixDefinition(from)
	case here == "(":
		p.take()
		n.L = list(p, (*parser).decl)
		p.expect(")")
	}
	p.expect("==")
	n.L = append(n.L, body(p))
	return p.placed(n, from)
}

// functionDefinition reads the definition of a function from behind its name on.
func (p *parser) functionDefinition(name string, from int) api.Node {
	p.expect("[")
	l := list(p, (*parser).bind)
	p.expect("]")
	p.expect("==")
	return p.placed(api.Node{Kind: api.NdFunDef, S: name, L: append(l, p.expr())}, from)
}

// infixDefinition reads the definition of an infix operator from behind its first parameter on.
func (p *parser) infixDefinition(from int) api.Node {
	first := p.placed(api.Node{Kind: api.NdDecl, S: p.tokens[from].S}, from)
	sign := p.here()
	p.take()
	second := p.plainDecl()
	p.expect("==")
	return p.placed(api.Node{Kind: api.NdDefine, S: sign, L: []api.Node{first, second, p.expr()}}, from)
}

// body reads the body of a definition of a module.
func (p *parser) body() api.Node {
	if p.here() == "INSTANCE" {
		return p.instance()
	}
	return p.expr()
}

// instance reads an instance of a module.
func (p *parser) instance() api.Node {
	from := p.at
	p.expect("INSTANCE")
	n := api.Node{Kind: api.NdInstance, S: p.name()}
	if p.here() == "WITH" {
		p.take()
		n.L = list(p, (*parser).substitution)
	}
	return p.placed(n, from)
}

// substitution reads what is replaced, and by what.
func (p *parser) substitution() api.Node {
	from := p.at
	n := api.Node{Kind: api.NdSubst, S: p.here()}
	if p.isDefinable(n.S) {
		p.take()
	} else {
		n.S = p.name()
	}
	p.expect("<-")
	n.L = []api.Node{p.argument((*parser).endsInSubst)}
	return p.placed(n, from)
}
