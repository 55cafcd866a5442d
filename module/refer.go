package module

import "foregone/api"

// meant returns what the name, or the sign, of a node is called, and the arguments that the instances by which it comes put ahead of its own.
func (r *rewriter) meant(n api.Node) (string, []api.Node) {
	x := r.home.names[n.S]
	if x.kind == nothing && isLanguage(n.S) {
		return n.S, nil
	}
	if x.kind == nothing || x.kind == anInstance {
		r.home.fail(n.At, api.ErrUnknown)
	}
	return r.lifted(x)
}

// lifted returns what is called so in the module of the tree, as the flat form calls it.
func (r *rewriter) lifted(x meaning) (string, []api.Node) {
	x, ahead := r.lift(r.via, x)
	return r.target.nameOf(x), ahead
}

// lift returns what it means outside of some instances to mean x within.
func (r *rewriter) lift(via *path, x meaning) (meaning, []api.Node) {
	if via == nil {
		return x, nil
	}
	x, ahead := r.lift(via.rest, x)
	subst, isReplaced := via.substs[x.name]
	switch {
	case x.kind == aDefinition:
		x.via = &path{via.block, x.via}
	case isReplaced:
		x = meaning{kind: aDefinition, item: subst}
	default:
		return via.home.names[x.name], ahead
	}
	return x, append(r.arguments(via.block), ahead...)
}

// arguments returns the names of an instance's parameters.
func (r *rewriter) arguments(b *block) []api.Node {
	return mapped(b.params, func(p api.Node) api.Node { return r.makes(b, api.Node{Kind: api.NdName, S: p.S}) })
}

// makes returns a node that an instance makes.
func (r *rewriter) makes(b *block, n api.Node) api.Node {
	r.made()
	return b.places(n)
}

// qual rewrites an NdQual: all but its last part are instances.
func (r *rewriter) qual(n api.Node, s *scope) api.Node {
	var args []api.Node
	var blocks []*block
	last := len(n.L) - 1
	m := r.home
	for _, part := range n.L[:last] {
		b, e := m.instanceNamed(part.S, m == r.home)
		if e == api.OK && len(part.L) != len(b.params) {
			e = api.ErrPath
		}
		if e != api.OK {
			r.home.fail(part.At, e)
		}
		args = append(args, r.each(part.L, s)...)
		blocks = append(blocks, b)
		m = b.of
	}
	x := m.names[n.L[last].S]
	switch {
	case x.kind != aDefinition:
		r.home.fail(n.L[last].At, api.ErrUnknown)
	case x.local:
		r.home.fail(n.L[last].At, api.ErrLocal)
	}
	args = append(args, r.each(n.L[last].L, s)...)
	for i := len(blocks) - 1; i >= 0; i-- {
		x.via = &path{blocks[i], x.via}
	}
	name, ahead := r.lifted(x)
	return applied(n, name, append(ahead, args...))
}

// instanceNamed returns the instance with a name that can be used of m, or, if it stands there, within m.
func (m *module) instanceNamed(name string, within bool) (*block, api.Errno) {
	x := m.names[name]
	switch {
	case x.kind != anInstance && !m.hidden[name]:
		return nil, api.ErrUnknown
	case x.kind != anInstance || x.local && !within:
		return nil, api.ErrLocal
	}
	return x.block, api.OK
}
