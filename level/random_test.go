package level_test

import (
	"math/rand/v2"
	"slices"

	"foregone/api"
)

// maker makes random expressions, always the same ones for a seed.
type maker struct {
	*rand.Rand
	sp     api.Spec
	within int  // the definition whose body is made, or -1
	left   int  // nodes that may still be made, about
	narrow bool // whether most nodes are of the kinds that levels are about
}

// newMaker returns a maker; that of every second seed is a narrow one.
func newMaker(seed int) *maker {
	return &maker{Rand: rand.New(rand.NewPCG(uint64(seed), 6)), within: -1, narrow: seed%2 == 1}
}

// spec makes a specification with some definitions.
func (m *maker) spec() api.Spec {
	m.sp = small()
	count := m.IntN(6)
	for i := range count {
		d := api.Def{Name: "D" + string(rune('0'+i)), Rec: m.IntN(4) == 0}
		for range m.IntN(4) {
			d.Params = append(d.Params, max(0, m.IntN(5)-2))
		}
		m.sp.Defs = append(m.sp.Defs, d)
	}
	if m.narrow { // operators that are handed over are more often used if a definition does nothing else
		for i := range m.IntN(3) {
			body := apply(0, []api.Expr{x, c, prime(x)}[m.IntN(3)])
			m.sp.Defs = slices.Insert(m.sp.Defs, 0, with(def("U"+string(rune('0'+i)), body), 1))
		}
	}
	for i := range m.sp.Defs {
		if m.sp.Defs[i].Name[0] == 'U' {
			continue
		}
		m.within = i
		m.sp.Defs[i].Body = m.expr(m.sp.Defs[i].Params, 3+m.IntN(12))
	}
	m.within = -1
	return m.sp
}

// oddSpec makes a specification with definitions that are not all well formed: some have more parameters than there may be, or ask for operators that there are not.
func (m *maker) oddSpec() api.Spec {
	m.sp = small()
	for i := range 2 + m.IntN(4) {
		d := def("D"+string(rune('0'+i)), x)
		if m.IntN(2) == 0 {
			d.Params = make([]int, 6+m.IntN(5))
		}
		for range m.IntN(3) {
			d.Params = append(d.Params, []int{-1, 0, 1, 7, 8, 8, 9, 10}[m.IntN(8)])
		}
		m.sp.Defs = append(m.sp.Defs, d)
	}
	return m.sp
}

// expr makes an expression with about so many nodes.
func (m *maker) expr(scope []int, nodes int) api.Expr {
	m.left = nodes
	return m.node(scope)
}

// callable returns the definitions that may be called here.
func (m *maker) callable() []int {
	var l []int
	for i, d := range m.sp.Defs {
		if m.within < 0 || i < m.within || d.Rec && m.sp.Defs[m.within].Rec {
			l = append(l, i)
		}
	}
	return l
}

// withArity returns the variables of a scope that are values (0), or operators of an arity (any one, if it is below 0).
func withArity(scope []int, arity int) []int {
	var l []int
	for i, a := range scope {
		if a == arity || arity < 0 && a > 0 {
			l = append(l, i)
		}
	}
	return l
}

func (m *maker) pick(l []int) int { return l[m.IntN(len(l))] }

// leaf makes a node without elements.
func (m *maker) leaf(scope []int) api.Expr {
	if l := withArity(scope, 0); len(l) > 0 && m.IntN(4) > 0 {
		if m.IntN(2) == 0 {
			return b(l[len(l)-1])
		}
		return b(m.pick(l))
	}
	switch m.IntN(6) {
	case 0:
		return num(m.IntN(3))
	case 1:
		return c
	case 2:
		return api.Expr{Kind: api.ELit, V: model("b")}
	case 3:
		return exn(api.EClass, api.ClNat)
	case 4:
		return y
	}
	return x
}

// elements makes the elements of a node.
func (m *maker) elements(e api.Expr, count int, scope []int) api.Expr {
	e.L = make([]api.Expr, count)
	for i := range e.L {
		e.L[i] = m.node(slices.Concat(scope, make([]int, moreOf(e, i))))
	}
	return e
}

// node makes an expression.
func (m *maker) node(scope []int) api.Expr {
	m.left--
	if m.left <= 0 || len(scope) > 30 {
		return m.leaf(scope)
	}
	if m.narrow && m.IntN(6) == 0 {
		return m.carried(scope)
	}
	switch n := m.IntN(24); {
	case n < 4:
		return m.call(scope)
	case n < 5:
		return m.elements(ex(api.EPrime), 1, scope)
	case n < 6:
		return m.elements(ex([]int{api.EUnchanged, api.EEnabled}[m.IntN(2)]), 1, scope)
	case n < 7:
		return m.elements(ex(api.ECompose), 2, scope)
	case n < 10:
		return m.elements(ex(api.ELet), 2, scope)
	case n < 12:
		return m.elements(ex(api.EExcept), 3, scope)
	case n < 14:
		if l := withArity(scope, -1); len(l) > 0 {
			i := m.pick(l)
			return m.elements(exn(api.EBoundOp, i), scope[i], scope)
		}
	}
	return m.plain(scope)
}

// carried makes an ELet or EExcept of what is in scope, the value of which stands where not all is allowed.
func (m *maker) carried(scope []int) api.Expr {
	first, inner := m.leaf(scope), slices.Concat(scope, []int{0})
	if m.IntN(3) == 0 {
		first = plus(first, m.leaf(scope))
	}
	value := b(len(scope))
	if m.IntN(3) == 0 {
		value = m.carried(inner)
	}
	switch m.IntN(6) {
	case 0:
		value = prime(value)
	case 1:
		value = unchanged(value)
	case 2:
		value = enabled(value)
	case 3:
		value = then(value, m.leaf(inner))
	case 4:
		value = then(m.leaf(inner), value)
	}
	if m.IntN(3) == 0 {
		return except(first, m.leaf(scope), value)
	}
	return let(first, value)
}

// plain makes a node of a kind that has nothing to do with levels.
func (m *maker) plain(scope []int) api.Expr {
	if m.narrow {
		kind := []int{api.EAnd, api.ESet, api.ETuple, api.EAll}[m.IntN(4)]
		if kind == api.EAll {
			return m.elements(exn(kind, 1), 2, scope)
		}
		return m.elements(ex(kind), 1+m.IntN(2), scope)
	}
	kinds := []int{api.EAnd, api.EOr, api.ENot, api.EImplies, api.EIff, api.EAll, api.EExists, api.EChoose, api.EEq, api.EIn, api.ESubset, api.ESet, api.EFilter, api.EMap, api.EPower, api.EUnion, api.ECup, api.ECap, api.EMinus, api.EFun, api.EApply, api.EDomain, api.EFunSet, api.ERecord, api.ERecSet, api.EField, api.ETuple, api.EProduct, api.EIf, api.ECase, api.EPrim, api.EClass}
	e := ex(m.pick(kinds))
	switch e.Kind {
	case api.EAll, api.EExists, api.EMap, api.EFun:
		e.N = 1 + m.IntN(2)
	case api.EField:
		e.S = []string{"f"}
	case api.ERecord, api.ERecSet:
		e.S = []string{"f", "g", "h"}[:1+m.IntN(3)]
	case api.ECase:
		e.N = m.IntN(2)
	case api.EPrim:
		e.N = 1 + m.IntN(api.MaxPrim)
	case api.EClass:
		e.N = api.ClSeq
	}
	r, _ := rowOf(e, 0)
	count := r.least
	if r.most < 0 && e.Kind != api.ECase {
		count += m.IntN(3)
	}
	return m.elements(e, count, scope)
}

// call makes a call of a definition.
func (m *maker) call(scope []int) api.Expr {
	l := m.callable()
	if len(l) == 0 {
		return m.leaf(scope)
	}
	e := call(m.pick(l))
	for _, arity := range m.sp.Defs[e.N].Params {
		if arity == 0 {
			e.L = append(e.L, m.node(scope))
		} else {
			e.L = append(e.L, m.operator(scope, arity))
		}
	}
	return e
}

// operator makes an operator of an arity (something that looks like one, if there is none).
func (m *maker) operator(scope []int, arity int) api.Expr {
	if arity < 0 {
		return lambda(arity, m.node(scope))
	}
	var defs []int
	for _, i := range m.callable() {
		if slices.Equal(m.sp.Defs[i].Params, make([]int, arity)) {
			defs = append(defs, i)
		}
	}
	handed := withArity(scope, arity)
	switch n := m.IntN(4); {
	case n == 0 && len(defs) > 0:
		return oper(m.pick(defs))
	case n < 2 && len(handed) > 0:
		return exn(api.EBoundArg, m.pick(handed))
	}
	return lambda(arity, m.node(slices.Concat(scope, make([]int, arity))))
}

// spoiled returns an expression with a change at one place that may be none that is allowed.
func (m *maker) spoiled(e api.Expr) api.Expr {
	l := paths(e)
	p := l[m.IntN(len(l))]
	n := clone(at(e, p))
	switch m.IntN(8) {
	case 0:
		n.N += m.IntN(5) - 2
	case 1:
		n.Kind = m.IntN(50)
	case 2:
		n.S = append(slices.Clone(n.S), []string{"a", "g", "z", "TRUE", "1x"}[m.IntN(5)])
	case 3:
		n.V.S = "q"
	case 4:
		n.L = append(n.L, x)
	case 5:
		n.L = n.L[:max(0, len(n.L)-1)]
	case 6:
		n = []api.Expr{oper(m.IntN(4)), lambda(1+m.IntN(2), b(0)), handed(m.IntN(3)), b(m.IntN(6)), call(m.IntN(6), x), apply(m.IntN(3), x)}[m.IntN(6)]
	case 7:
		n.N = 0
	}
	return replaced(e, p, n)
}
