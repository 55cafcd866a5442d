package parse

import "foregone/api"

// parser is a place in a list of tokens, with the tables by which tokens are read.
type parser struct {
	cursor
	operators
	arrows
	primaries map[string]func(p *parser) api.Node
	units     map[string]func(p *parser) api.Node
}

func newParser(tokens []api.Token) *parser {
	return &parser{
		cursor:    cursor{tokens: tokens},
		operators: newOperators(),
		arrows:    arrows{within: map[int]bool{}},
		primaries: primaries(),
		units:     units(),
	}
}

// list reads one item, or several ones with commas between them.
func list[T any](p *parser, item func(p *parser) T) []T {
	l := []T{item(p)}
	for p.here() == "," {
		p.take()
		l = append(l, item(p))
	}
	return l
}

// operand is a node that was read, and the index of its first token, parentheses around the node not counted.
type operand struct {
	node api.Node
	from int
}

// operator is an operator that waits for its right operand.
type operator struct {
	api.Prec
	sign   string
	prefix bool
	left   []api.Node // the operands ahead of it
	from   int        // the first token of what it is going to be
}

// expr reads an expression.
func (p *parser) expr() api.Node { return p.expression().node }

// expression reads an expression by precedence.
func (p *parser) expression() operand {
	var waiting []operator
	for {
		waiting = p.prefixes(waiting)
		from := p.at
		x := p.operand(waiting)
		q, more := p.infixHere()
	compare:
		for len(waiting) > 0 {
			last := waiting[len(waiting)-1]
			switch {
			case !more || last.Lo > q.Hi || last.sign == q.sign && last.Left:
				x, from = p.applied(last, x.node), last.from
				waiting = waiting[:len(waiting)-1]
			case last.Hi < q.Lo:
				break compare
			case last.sign == productSign && q.sign == productSign:
				q.left, from = last.left, last.from
				waiting = waiting[:len(waiting)-1]
				break compare
			default:
				p.fail(api.ErrPrec)
			}
		}
		if !more {
			return x
		}
		q.left, q.from = append(q.left, x.node), from
		waiting = append(waiting, q)
		p.take()
	}
}

// prefixes reads the prefix operators that stand here; they wait behind those that wait already.
func (p *parser) prefixes(waiting []operator) []operator {
	for p.isPrefix(p.here()) {
		sign := p.here()
		waiting = append(waiting, operator{Prec: p.prefix[sign].prec(), sign: sign, prefix: true, from: p.at})
		p.take()
	}
	return waiting
}

// infixHere returns the infix operator that stands here, if there is one.
func (p *parser) infixHere() (operator, bool) {
	sign := p.here()
	r, ok := p.infix[sign]
	return operator{Prec: r.prec(), sign: sign}, ok
}

// applied returns an operator with its last operand, which was read last.
func (p *parser) applied(o operator, right api.Node) operand {
	n := api.Node{Kind: api.NdInfix, S: o.sign, L: append(o.left, right)}
	switch {
	case o.prefix:
		n.Kind = api.NdPrefix
	case o.sign == productSign:
		n.Kind, n.S = api.NdProduct, ""
	}
	return operand{p.placed(n, o.from), o.from}
}

// operand reads a primary with what stands behind it.
func (p *parser) operand(waiting []operator) operand {
	from := p.at
	x := p.primary()
	for {
		var n api.Node
		var indices []api.Node
		switch p.here() {
		case "'":
			p.comparePrime(waiting)
			p.take()
			n.Kind = api.NdPrime
		case ".":
			p.take()
			n.Kind, n.S = api.NdDot, p.name()
		case "[":
			n.Kind, indices = api.NdIndex, p.indices()
		default:
			return x
		}
		n.L = append([]api.Node{x.node}, indices...)
		x = operand{p.placed(n, from), from}
	}
}

// comparePrime checks that ' binds more tightly than the operator that waits last.
func (p *parser) comparePrime(waiting []operator) {
	if n := len(waiting); n > 0 && waiting[n-1].Hi >= primeLow {
		p.fail(api.ErrPrec)
	}
}

// indices reads indices in brackets.
func (p *parser) indices() []api.Node {
	p.expect("[")
	l := list(p, (*parser).expr)
	p.expect("]")
	return l
}
