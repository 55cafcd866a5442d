package module

import (
	"math"

	"foregone/api"
	"foregone/parse"
)

// flat is the flat module of a root, and the units that its units come from.
type flat struct {
	root  *module
	node  api.Node
	units []unit
}

// flatten returns the flat module of a root.
func flatten(l []api.Node, root string) (flat, failure) {
	lib, e := newLibrary(l)
	if e == api.OK && !lib.isGiven(root) {
		e = api.ErrModule
	}
	if e != api.OK {
		return flat{}, failure{err: e}
	}
	return attempt(lib.byName[root].flatten)
}

// flatten returns the flat module of a module.
func (m *module) flatten() flat {
	m.settle()
	f := flat{root: m, node: api.Node{Kind: api.NdModule, S: m.name, At: m.node.At, End: m.node.End}}
	count := 0
	made := func() {
		count++
		mustFit(count <= api.MaxTokens)
	}
	for _, p := range m.parts {
		mustFit(!p.huge)
	}
	for u := range m.form() {
		if write, ok := m.lib.writers[u.kind]; ok {
			r := &rewriter{ways: m.lib.ways, home: u.home, via: u.via, target: m, made: made}
			f.node.L = append(f.node.L, write(r, u))
			f.units = append(f.units, u)
		}
	}
	nodes, deep := parse.Size(f.node)
	mustFit(nodes <= api.MaxTokens && deep <= api.MaxDeepN)
	return f
}

// mustFit leaves with an error unless a flat module is not too large.
func mustFit(fits bool) {
	if !fits {
		panic(failure{err: api.ErrLimit})
	}
}

// asIs returns a unit without new names of its own.
func (r *rewriter) asIs(u unit) api.Node { return r.tree(u.tree(), nil) }

func (r *rewriter) recursive(u unit) api.Node {
	n := r.asIs(u)
	further := len(r.via.allParams())
	for i, d := range n.L {
		mustFit(d.N <= math.MaxInt-further)
		n.L[i].S = r.target.mentions(u, d.S)
		n.L[i].N += further
	}
	return n
}

func (r *rewriter) define(u unit) api.Node {
	n := r.asIs(u)
	n.S, n.N = u.name, 0
	n.L = append(r.params(), n.L...)
	return n
}

func (r *rewriter) defineFunction(u unit) api.Node {
	n := r.asIs(u)
	n.N = 0
	maker := r.via.maker()
	if maker == nil {
		n.S = u.name
		return n
	}
	name := r.makes(maker, api.Node{Kind: api.NdName, S: n.S})
	let := r.makes(maker, api.Node{Kind: api.NdLet, L: []api.Node{n, name}})
	return api.Node{Kind: api.NdDefine, S: u.name, L: append(r.params(), let), At: n.At, End: n.End}
}

// params returns the parameters of the instances by which a definition comes.
func (r *rewriter) params() []api.Node { return r.each(r.via.allParams(), nil) }

// allParams returns the parameters of instances within each other.
func (p *path) allParams() []api.Node {
	var params []api.Node
	for ; p != nil; p = p.rest {
		params = append(params, p.params...)
	}
	return params
}

// maker returns the innermost instance with parameters, which makes a definition with a LET of a function; nil if there is none.
func (p *path) maker() *block {
	var b *block
	for ; p != nil; p = p.rest {
		if len(p.params) > 0 {
			b = p.block
		}
	}
	return b
}

// exports returns what a unit of a flat module declares.
func exports(n api.Node) []api.Export {
	export := func(d api.Node) api.Export { return api.Export{Name: d.S, Kind: n.Kind, Args: d.N} }
	switch n.Kind {
	case api.NdConstants, api.NdVariables:
		return mapped(n.L, export)
	case api.NdDefine:
		return []api.Export{{Name: n.S, Kind: n.Kind, Args: len(n.L) - 1}}
	case api.NdFunDef:
		return []api.Export{export(n)}
	}
	return nil
}

// duties returns the assumptions of the instances in the flat form.
func (m *module) duties() []api.Duty {
	var told []api.Duty
	for u := range m.form() {
		if u.kind != api.NdInstance {
			continue
		}
		for a := range u.block.of.form() {
			if a.kind == api.NdAssume {
				r := &rewriter{ways: m.lib.ways, home: a.home, via: &path{rest: a.via, block: u.block}, target: m, made: func() {}}
				told = append(told, api.Duty{Path: u.name, E: r.tree(a.tree().L[0], nil)})
			}
		}
	}
	return told
}
