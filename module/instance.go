package module

import (
	"maps"
	"math"
	"slices"
	"strconv"

	"foregone/api"
)

// block is an instance: what its units are made of.
type block struct {
	home   *module // the module in which it stands
	of     *module
	name   string // what the names of its definitions begin with
	alone  bool   // whether it is not the body of a definition
	local  bool
	node   api.Node   // the NdInstance
	params []api.Node // of the definition whose body it is
	substs map[string]*item
	order  []*item // what the NdSubst become
}

// means returns what the name of an instance means.
func (b *block) means() meaning {
	return meaning{kind: anInstance, name: b.name, local: b.local, block: b}
}

// calls returns what a definition of the instance's module is called in the module with the instance, and whether it is local there.
func (b *block) calls(name string, local bool) (string, bool) {
	if !b.alone || local {
		name = b.name + "!" + plain(name)
	}
	return name, local || b.local
}

// places gives a node the place of the instance.
func (b *block) places(n api.Node) api.Node {
	n.At, n.End = b.node.At, b.node.End
	return n
}

// instance adds the units of an NdInstance that is no body.
func (m *module) instance(n api.Node) {
	m.unfold(&block{home: m, name: n.S, alone: true, local: n.N == 1, node: n})
}

// unfold adds the units of an instance.
func (m *module) unfold(b *block) {
	b.of, b.substs = m.lib.byName[b.node.S], map[string]*item{}
	if !b.alone {
		m.mustBeFree(b.name, b.node.At)
	}
	for _, s := range b.node.L {
		b.substitute(s)
	}
	b.findParameters()
	b.mustNotCatch()
	m.addUnits(b)
	m.addBoundOf(b)
	if !b.alone {
		m.names[b.name] = b.means()
	}
}

// substitute adds the definition that an NdSubst becomes.
func (b *block) substitute(s api.Node) {
	m, arg := b.home, s.L[0]
	p := b.of.names[s.S]
	_, isDouble := b.substs[s.S]
	if p.kind != aParameter || isDouble || arg.Kind == api.NdSign && p.args != 2 {
		m.fail(s.At, api.ErrSubst)
	}
	var outside *scope
	m.checker().tree(arg, outside.bind(boundBy(b.params)...))
	i := &item{kind: api.NdDefine, home: m, at: s.At, written: s.S, own: b.name + "!" + s.S, private: b.local}
	i.tree = b.definition(arg, p.args)
	b.substs[s.S] = i
	b.order = append(b.order, i)
}

// definition returns what makes the definition of a parameter with some arguments that an argument replaces.
func (b *block) definition(arg api.Node, args int) func() api.Node {
	isOperator := arg.Kind == api.NdSign || args > 0 && (arg.Kind == api.NdName || arg.Kind == api.NdQual)
	if !isOperator {
		inner := []api.Node{arg}
		if arg.Kind == api.NdLambda {
			inner = arg.L
		}
		return func() api.Node { return b.defines(inner) }
	}
	if args > api.MaxTokens {
		b.home.huge = true
		return func() api.Node { return b.defines([]api.Node{arg}) }
	}
	names := b.freshNames(args)
	return func() api.Node {
		params := mapped(names, func(s string) api.Node { return b.places(api.Node{Kind: api.NdDecl, S: s}) })
		values := mapped(names, func(s string) api.Node { return b.places(api.Node{Kind: api.NdName, S: s}) })
		return b.defines(append(params, b.places(callOf(arg, values))))
	}
}

// defines returns a definition that has the instance's parameters ahead of what else there is.
func (b *block) defines(l []api.Node) api.Node {
	return b.places(api.Node{Kind: api.NdDefine, L: slices.Concat(b.params, l)})
}

// callOf returns the call of an operator with some arguments.
func callOf(arg api.Node, args []api.Node) api.Node {
	switch arg.Kind {
	case api.NdSign:
		return api.Node{Kind: api.NdInfix, S: arg.S, L: args}
	case api.NdName:
		return api.Node{Kind: api.NdCall, S: arg.S, L: args}
	}
	last := len(arg.L) - 1
	part := arg.L[last]
	part.Kind, part.L = api.NdCall, slices.Concat(part.L, args)
	arg.L = append(slices.Clone(arg.L[:last]), part)
	return arg
}

// freshNames returns x1, x2 and so on, each one with as many signs _ behind it as are needed for none of them to be known there.
func (b *block) freshNames(count int) []string {
	params := boundBy(b.params)
	isKnown := func(name string) bool {
		return b.home.names[name].kind != nothing || slices.Contains(params, name)
	}
	names := make([]string, count)
	for k := range names {
		names[k] = "x" + strconv.Itoa(k+1)
	}
	for slices.ContainsFunc(names, isKnown) {
		for k := range names {
			names[k] += "_"
		}
	}
	return names
}

// findParameters leaves with an error unless the module with the instance has what stands for the parameters that are not replaced.
func (b *block) findParameters() {
	for p := range b.kept() {
		x := b.home.names[p.name]
		if x.kind == nothing || x.kind == anInstance || x.args != p.args {
			b.home.fail(b.node.At, api.ErrUnknown)
		}
	}
}

// kept yields the parameters of the instance's module that are not replaced.
func (b *block) kept() func(yield func(meaning) bool) {
	return func(yield func(meaning) bool) {
		for u := range b.of.form() {
			if u.kind != api.NdConstants && u.kind != api.NdVariables {
				continue
			}
			for name, p := range b.of.declared(u) {
				if b.substs[name] == nil && !yield(p) {
					return
				}
			}
		}
	}
}

// mustNotCatch leaves with an error if a parameter of the instance would mean something else within its definitions.
func (b *block) mustNotCatch() {
	if len(b.params) == 0 {
		return
	}
	caught := map[string]bool{}
	for p := range b.kept() {
		caught[p.name] = true
	}
	for _, p := range b.params {
		if caught[p.S] || isLanguage(p.S) || b.of.isBound(p.S) {
			b.home.fail(b.node.At, api.ErrDouble)
		}
	}
}

// isBound reports whether a name is bound in a definition or an assumption of the flat form.
func (m *module) isBound(name string) bool {
	return slices.ContainsFunc(m.parts, func(p *module) bool { return p.bound[name] || p.given[name] })
}

// addUnits adds the instance itself and what it consists of to the units of the module.
func (m *module) addUnits(b *block) {
	m.keep(unit{item: &item{kind: api.NdInstance, home: m, block: b}, name: b.name, local: b.local})
	for _, i := range b.order {
		m.add(unit{item: i, name: i.own, local: i.private}, b)
	}
	for u := range b.of.form() {
		if m.huge && !b.alone {
			break
		}
		switch {
		case u.isDefinition():
			u.name, u.local = b.calls(u.name, u.local)
		case u.kind != api.NdRecursive:
			continue
		}
		u.via = &path{b, u.via}
		m.add(u, b)
	}
	m.measure(b)
}

// add declares and adds a unit of an instance.
func (m *module) add(u unit, b *block) {
	m.get(u, b.node.At)
	m.keep(u)
}

// measure takes the lengths of the names of an instance's definitions into account, also of those that are not among the units.
func (m *module) measure(b *block) {
	for _, p := range b.of.parts {
		m.huge = m.huge || p.huge
		open, local := p.longest[0], p.longest[1]+len(b.of.paths[p.name])
		local += len(b.name) + 1
		if !b.alone {
			open += len(b.name) + 1
		}
		isLong := local > api.MaxName || open > api.MaxName && !b.alone
		if m.huge && isLong {
			m.fail(b.node.At, api.ErrLimit)
		}
		if b.local {
			open, local = math.MinInt32, max(open, local)
		}
		m.longest[0], m.longest[1] = max(m.longest[0], open), max(m.longest[1], local)
	}
}

// addBoundOf adds the names that are bound in the definitions of an instance.
func (m *module) addBoundOf(b *block) {
	for _, i := range b.order {
		addBound(m.bound, i.tree())
	}
	for _, p := range b.of.parts {
		if !m.within[p.name] {
			m.within[p.name] = true
			maps.Copy(m.bound, p.bound)
		}
	}
	if len(b.params) > 0 {
		m.addBoundAhead(b)
	}
}

// addBoundAhead adds the parameters that definitions of an instance have ahead of their own, and the functions that are within a LET because of them.
func (m *module) addBoundAhead(b *block) {
	isBinding := false
	for u := range b.of.form() {
		isBinding = isBinding || u.isDefinition()
		if u.kind == api.NdFunDef {
			m.bound[u.written] = true
		}
	}
	if isBinding {
		for _, p := range b.params {
			m.bound[p.S] = true
		}
	}
}
