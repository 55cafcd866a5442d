package parse

import (
	"slices"

	"foregone/api"
)

// primaries returns how primaries are read that begin with a sign or a reserved word, but those in parentheses.
func primaries() map[string]func(p *parser) api.Node {
	return map[string]func(p *parser) api.Node{
		"TRUE":    (*parser).constant,
		"FALSE":   (*parser).constant,
		"BOOLEAN": (*parser).constant,
		"STRING":  (*parser).constant,
		"@":       (*parser).constant,
		`/\`:      (*parser).bullets,
		`\/`:      (*parser).bullets,
		`\A`:      (*parser).quantifier,
		`\E`:      (*parser).quantifier,
		"CHOOSE":  (*parser).choose,
		"IF":      (*parser).conditional,
		"CASE":    (*parser).cases,
		"LET":     (*parser).let,
		"{":       (*parser).braces,
		"<<":      (*parser).angles,
		"[":       (*parser).brackets,
		"WF_":     (*parser).fairness,
		"SF_":     (*parser).fairness,
	}
}

// primary reads a primary.
func (p *parser) primary() operand {
	from := p.at
	switch p.kind(from) {
	case api.TkName:
		return operand{p.qualified(), from}
	case api.TkNumber:
		i := p.tokens[from].I
		i.D = slices.Clone(i.D)
		return operand{p.leaf(api.Node{Kind: api.NdNumber, I: i}), from}
	case api.TkString:
		return operand{p.leaf(api.Node{Kind: api.NdString, S: p.tokens[from].S}), from}
	}
	if p.here() == "(" {
		return p.parentheses()
	}
	read, ok := p.primaries[p.here()]
	if !ok {
		p.fail(api.ErrParse)
	}
	return operand{read(p), from}
}

// parentheses reads an expression in parentheses.
func (p *parser) parentheses() operand {
	p.expect("(")
	x := p.expression()
	p.expect(")")
	return x
}

func (p *parser) constant() api.Node {
	return p.leaf(api.Node{Kind: api.NdWord, S: p.here()})
}

// qualified reads names, each one with arguments or without, and ! between them.
func (p *parser) qualified() api.Node {
	from := p.at
	l := []api.Node{p.called()}
	for p.here() == "!" {
		p.take()
		l = append(l, p.called())
	}
	if len(l) == 1 {
		return l[0]
	}
	return p.placed(api.Node{Kind: api.NdQual, L: l}, from)
}

// called reads a name, with arguments or without.
func (p *parser) called() api.Node {
	from := p.at
	n := p.nameNode(api.NdName)
	if p.here() != "(" {
		return n
	}
	p.take()
	n.Kind, n.L = api.NdCall, list(p, (*parser).callArgument)
	p.expect(")")
	return p.placed(n, from)
}

func (p *parser) callArgument() api.Node { return p.argument((*parser).endsInCall) }

// argument reads an argument. An infix operator alone is one, if ends holds for the token behind it.
func (p *parser) argument(ends func(p *parser, i int) bool) api.Node {
	here := p.here()
	switch {
	case here == "LAMBDA":
		return p.lambda()
	case p.isBinary(here) && ends(p, p.at+1):
		return p.leaf(api.Node{Kind: api.NdSign, S: here})
	}
	return p.expr()
}

// endsInCall reports whether the token i shows that the sign ahead of it is an argument of a call.
func (p *parser) endsInCall(i int) bool { return p.word(i) == "," || p.word(i) == ")" }

// endsInSubst reports whether the token i shows that the sign ahead of it is the argument of a substitution.
func (p *parser) endsInSubst(i int) bool {
	switch p.kind(i) {
	case 0, api.TkName, api.TkRule, api.TkClose:
		return true
	}
	_, begins := p.units[p.word(i)]
	return begins || p.word(i) == ","
}

func (p *parser) lambda() api.Node {
	from := p.at
	p.expect("LAMBDA")
	l := list(p, (*parser).plainDecl)
	p.expect(":")
	return p.placed(api.Node{Kind: api.NdLambda, L: append(l, p.expr())}, from)
}

// plainDecl reads a name that is declared, and takes no arguments.
func (p *parser) plainDecl() api.Node { return p.nameNode(api.NdDecl) }

func (p *parser) plainName() api.Node { return p.nameNode(api.NdName) }

// bullets reads a bulleted list.
func (p *parser) bullets() api.Node {
	from, sign, column := p.at, p.here(), p.tokens[p.at].Col
	var items []api.Node
	for p.here() == sign && p.tokens[p.at].Col == column {
		p.take()
		p.columns = append(p.columns, column)
		items = append(items, p.expr())
		p.columns = p.columns[:len(p.columns)-1]
	}
	return p.placed(api.Node{Kind: api.NdJunct, S: sign, L: items}, from)
}

func (p *parser) quantifier() api.Node {
	from, sign := p.at, p.here()
	p.take()
	l := list(p, (*parser).bind)
	p.expect(":")
	return p.placed(api.Node{Kind: api.NdQuant, S: sign, L: append(l, p.expr())}, from)
}

// bind reads names, or a tuple of names, with their set.
func (p *parser) bind() api.Node {
	from := p.at
	if p.here() == "<<" {
		return p.tupleBind()
	}
	return p.boundIn(list(p, (*parser).plainName), 0, from)
}

// tupleBind reads a tuple of names, with its set.
func (p *parser) tupleBind() api.Node {
	from := p.at
	p.expect("<<")
	names := list(p, (*parser).plainName)
	p.expect(">>")
	return p.boundIn(names, 1, from)
}

// boundIn reads the set of names; tuple is 1 if they stand in a tuple.
func (p *parser) boundIn(names []api.Node, tuple, from int) api.Node {
	p.expect(`\in`)
	return p.placed(api.Node{Kind: api.NdBind, N: tuple, L: append(names, p.expr())}, from)
}

// singleBind reads one name, or a tuple of names, with its set.
func (p *parser) singleBind() api.Node {
	from := p.at
	if p.here() == "<<" {
		return p.tupleBind()
	}
	return p.boundIn([]api.Node{p.plainName()}, 0, from)
}

func (p *parser) choose() api.Node {
	from := p.at
	p.expect("CHOOSE")
	bind := p.singleBind()
	p.expect(":")
	return p.placed(api.Node{Kind: api.NdChoose, L: []api.Node{bind, p.expr()}}, from)
}

func (p *parser) conditional() api.Node {
	from := p.at
	var l []api.Node
	for _, word := range []string{"IF", "THEN", "ELSE"} {
		p.expect(word)
		l = append(l, p.expr())
	}
	return p.placed(api.Node{Kind: api.NdIf, L: l}, from)
}

func (p *parser) cases() api.Node {
	from := p.at
	p.expect("CASE")
	arms := []api.Node{p.arm()}
	for p.here() == "[]" && arms[len(arms)-1].N == 0 {
		p.take()
		if p.here() == "OTHER" {
			arms = append(arms, p.otherArm())
		} else {
			arms = append(arms, p.arm())
		}
	}
	return p.placed(api.Node{Kind: api.NdCase, L: arms}, from)
}

func (p *parser) arm() api.Node {
	from := p.at
	guard := p.expr()
	p.expect("->")
	return p.placed(api.Node{Kind: api.NdArm, L: []api.Node{guard, p.expr()}}, from)
}

func (p *parser) otherArm() api.Node {
	from := p.at
	p.expect("OTHER")
	p.expect("->")
	return p.placed(api.Node{Kind: api.NdArm, N: 1, L: []api.Node{p.expr()}}, from)
}

func (p *parser) let() api.Node {
	from := p.at
	p.expect("LET")
	l := []api.Node{p.definition((*parser).expr)}
	for p.isName() {
		l = append(l, p.definition((*parser).expr))
	}
	p.expect("IN")
	return p.placed(api.Node{Kind: api.NdLet, L: append(l, p.expr())}, from)
}

func (p *parser) fairness() api.Node {
	from, word := p.at, p.here()
	p.take()
	sub := p.subscript()
	p.expect("(")
	action := p.expr()
	p.expect(")")
	return p.placed(api.Node{Kind: api.NdFair, S: word, L: []api.Node{sub, action}}, from)
}

// subscript reads a subscript.
func (p *parser) subscript() api.Node {
	from := p.at
	switch p.here() {
	case "(":
		return p.parentheses().node
	case "<<":
		l := p.elements(">>")
		p.expect(">>")
		return p.placed(api.Node{Kind: api.NdTuple, L: l}, from)
	}
	l := []api.Node{p.plainName()}
	for p.here() == "!" {
		p.take()
		l = append(l, p.plainName())
	}
	if len(l) == 1 {
		return l[0]
	}
	return p.placed(api.Node{Kind: api.NdQual, L: l}, from)
}
