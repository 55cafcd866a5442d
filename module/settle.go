package module

import "foregone/api"

// settle goes through the units of a module, behind those of the modules that it uses, and leaves with the first error.
func (m *module) settle() {
	if m.settled {
		return
	}
	m.settled = true
	for _, name := range m.uses {
		m.lib.byName[name].settle()
	}
	for _, u := range m.node.L {
		m.defines[u.S] = m.defines[u.S] || u.Kind == api.NdDefine && !isNamedInstance(u)
	}
	for _, u := range m.node.L {
		m.lib.steps[u.Kind](m, u)
	}
	m.parts = append(m.parts, m)
	m.paths[m.name] = ""
}

// extend declares what the modules have that an NdExtends names.
func (m *module) extend(n api.Node) {
	for _, e := range n.L {
		x := m.lib.byName[e.S]
		for _, p := range x.parts {
			if _, known := m.paths[p.name]; !known {
				m.paths[p.name] = x.name + "!" + x.paths[p.name]
				m.parts = append(m.parts, p)
				m.join(p, e.At)
			}
		}
	}
}

// join declares what a module has that m extends.
func (m *module) join(p *module, at int) {
	ahead := m.paths[p.name]
	for _, u := range p.units {
		if u.kind == api.NdInstance {
			m.joinInstance(u, at)
			continue
		}
		if u.local {
			u.name = ahead + plain(u.name)
		}
		m.get(u, at)
	}
	if p.huge && len(ahead)+p.longest[1] > api.MaxName {
		m.fail(at, api.ErrLimit)
	}
}

// joinInstance declares the name of an instance of a module that m extends.
func (m *module) joinInstance(u unit, at int) {
	switch {
	case u.block.alone:
	case u.local:
		m.hidden[u.name] = true
	default:
		m.mustBeFree(u.name, at)
		m.names[u.name] = u.block.means()
	}
}

// get declares the names of a unit that comes from another module.
func (m *module) get(u unit, at int) {
	for name, x := range m.declared(u) {
		if len(name) > api.MaxName {
			m.fail(at, api.ErrLimit)
		}
		if x.kind == nothing {
			continue
		}
		m.mustBeFree(name, at)
		if isQualified(name) {
			m.taken[name] = true
		} else {
			m.names[name] = x
		}
	}
}

// mustBeFree leaves with an error if a name cannot be declared.
func (m *module) mustBeFree(name string, at int) {
	if m.names[name].kind != nothing || m.taken[name] || isLanguage(name) {
		m.fail(at, api.ErrDouble)
	}
}

// keep adds a unit to those of the module.
func (m *module) keep(u unit) {
	if u.isDefinition() {
		side := 0
		if u.local {
			side = 1
		}
		m.longest[side] = max(m.longest[side], len(plain(u.name)))
	}
	if len(m.taken) > api.MaxTokens && isQualified(u.name) {
		m.huge = true
		return
	}
	m.units = append(m.units, u)
}

// keepOwn adds a unit that stands in the module itself, and declares nothing but parameters.
func (m *module) keepOwn(n api.Node) {
	m.keep(unit{item: &item{kind: n.Kind, home: m, tree: func() api.Node { return n }}})
}

// checker returns what finds the errors of the module's trees.
func (m *module) checker() *rewriter {
	return &rewriter{ways: m.lib.ways, home: m, target: m, made: func() {}}
}

// constants declares the names of an NdConstants.
func (m *module) constants(n api.Node) {
	for _, d := range n.L {
		m.mustBeFree(d.S, d.At)
		m.names[d.S] = parameter(d)
	}
	m.keepOwn(n)
}

// variables declares the names of an NdVariables: a type sees the names ahead of its own.
func (m *module) variables(n api.Node) {
	for _, v := range n.L {
		m.mustBeFree(v.S, v.At)
		m.checker().each(v.L, nil)
		m.names[v.S] = parameter(v)
	}
	m.keepOwn(n)
}

func (m *module) assume(n api.Node) {
	m.checker().each(n.L, nil)
	addBound(m.given, n)
	m.keepOwn(n)
}

// theorem looks for errors alone: theorems are left out.
func (m *module) theorem(n api.Node) { m.checker().each(n.L, nil) }

// recursive declares the names of operators that are not declared, and that the module defines: so they are defined further down.
func (m *module) recursive(n api.Node) {
	for _, d := range n.L {
		if m.names[d.S].kind == nothing && m.defines[d.S] {
			m.mustBeFree(d.S, d.At)
			m.names[d.S] = meaning{kind: awaited, name: d.S, args: d.N}
		}
	}
	m.keepOwn(n)
}

// define declares the name of an operator, or adds an instance with a name.
func (m *module) define(n api.Node) {
	last := len(n.L) - 1
	if n.L[last].Kind == api.NdInstance {
		m.unfold(&block{home: m, name: n.S, local: n.N == 1, node: n.L[last], params: n.L[:last]})
		return
	}
	if m.names[n.S].kind != awaited {
		m.mustBeFree(n.S, n.At)
	}
	m.addDefinition(n, last)
}

// defineFunction declares the name of a function.
func (m *module) defineFunction(n api.Node) {
	m.mustBeFree(n.S, n.At)
	m.addDefinition(n, 0)
}

// addDefinition adds a definition with so many parameters.
func (m *module) addDefinition(n api.Node, args int) {
	m.checker().tree(n, nil)
	i := &item{kind: n.Kind, home: m, at: n.At, written: n.S, own: n.S, private: n.N == 1, args: args}
	i.tree = func() api.Node { return n }
	u := unit{item: i, name: n.S, local: i.private}
	m.names[n.S] = u.means()
	addBound(m.bound, n)
	m.keep(u)
}

// addBound adds the names that are bound within a tree.
func addBound(names map[string]bool, n api.Node) {
	switch n.Kind {
	case api.NdDecl, api.NdBind:
		for _, name := range boundBy([]api.Node{n}) {
			names[name] = true
		}
	case api.NdLet:
		for _, d := range n.L[:len(n.L)-1] {
			names[d.S] = true
		}
	}
	for _, e := range n.L {
		addBound(names, e)
	}
}
