package module

import (
	"slices"

	"foregone/api"
	"foregone/parse"
)

// scope is the names that are bound by a node, within the scope around it.
type scope struct {
	*scope
	names map[string]bool
}

// bind returns the scope within s that binds some names.
func (s *scope) bind(names ...string) *scope {
	inner := &scope{s, make(map[string]bool, len(names))}
	for _, name := range names {
		inner.names[name] = true
	}
	return inner
}

// binds reports whether a name is bound.
func (s *scope) binds(name string) bool {
	for ; s != nil; s = s.scope {
		if s.names[name] {
			return true
		}
	}
	return false
}

// rewriter gives the trees of a module the names that a flat form has.
type rewriter struct {
	ways
	home   *module // whose trees they are
	via    *path   // the instances by which they come
	target *module // whose flat form it is
	made   func()  // is told of each node
}

// rule rewrites nodes of a kind.
type rule = func(r *rewriter, n api.Node, s *scope) api.Node

// ways are how units and nodes are treated, by their kinds.
type ways struct {
	rules   map[int]rule
	steps   map[int]func(m *module, n api.Node)
	writers map[int]func(r *rewriter, u unit) api.Node
	signs   map[string]bool // which signs have been found to be definable, or not
}

func newWays() ways {
	return ways{
		signs: map[string]bool{},
		rules: map[int]rule{
			api.NdName: (*rewriter).name, api.NdCall: (*rewriter).call, api.NdQual: (*rewriter).qual,
			api.NdInfix: (*rewriter).infix, api.NdSign: (*rewriter).sign,
			api.NdBind: (*rewriter).bind, api.NdMap: (*rewriter).mapping, api.NdLet: (*rewriter).let,
			api.NdQuant: (*rewriter).binding, api.NdChoose: (*rewriter).binding, api.NdFilter: (*rewriter).binding, api.NdFun: (*rewriter).binding,
			api.NdLambda: (*rewriter).binding, api.NdDefine: (*rewriter).binding, api.NdFunDef: (*rewriter).binding,
		},
		steps: map[int]func(m *module, n api.Node){
			api.NdExtends: (*module).extend, api.NdConstants: (*module).constants, api.NdVariables: (*module).variables,
			api.NdAssume: (*module).assume, api.NdTheorem: (*module).theorem, api.NdRecursive: (*module).recursive,
			api.NdDefine: (*module).define, api.NdFunDef: (*module).defineFunction, api.NdInstance: (*module).instance,
		},
		writers: map[int]func(r *rewriter, u unit) api.Node{
			api.NdConstants: (*rewriter).asIs, api.NdVariables: (*rewriter).asIs, api.NdAssume: (*rewriter).asIs,
			api.NdRecursive: (*rewriter).recursive, api.NdDefine: (*rewriter).define, api.NdFunDef: (*rewriter).defineFunction,
		},
	}
}

// isDefinable reports whether a sign is definable.
func (w ways) isDefinable(sign string) bool {
	is, known := w.signs[sign]
	if !known {
		is = parse.Definable(sign)
		w.signs[sign] = is
	}
	return is
}

// tree rewrites a tree.
func (r *rewriter) tree(n api.Node, s *scope) api.Node {
	r.made()
	n.I.D = slices.Clone(n.I.D)
	if rewrite, ok := r.rules[n.Kind]; ok {
		return rewrite(r, n, s)
	}
	n.L = r.each(n.L, s)
	return n
}

// each rewrites the trees of a list.
func (r *rewriter) each(l []api.Node, s *scope) []api.Node {
	return mapped(l, func(n api.Node) api.Node { return r.tree(n, s) })
}

// mapped returns what some function makes of each element of a list.
func mapped[A, B any](l []A, f func(A) B) []B {
	made := make([]B, 0, len(l))
	for _, x := range l {
		made = append(made, f(x))
	}
	return made
}

// name rewrites the name of a value, or of an operator that is an argument.
func (r *rewriter) name(n api.Node, s *scope) api.Node {
	if s.binds(n.S) {
		return applied(n, n.S, nil)
	}
	name, ahead := r.meant(n)
	return applied(n, name, ahead)
}

func (r *rewriter) call(n api.Node, s *scope) api.Node {
	name, ahead := n.S, []api.Node(nil)
	if !s.binds(n.S) {
		name, ahead = r.meant(n)
	}
	return applied(n, name, append(ahead, r.each(n.L, s)...))
}

func (r *rewriter) infix(n api.Node, s *scope) api.Node {
	n.L = r.each(n.L, s)
	if !r.isDefinable(n.S) || s.binds(n.S) {
		return n
	}
	name, ahead := r.meant(n)
	if name == n.S {
		return n
	}
	return applied(n, name, append(ahead, n.L...))
}

func (r *rewriter) sign(n api.Node, s *scope) api.Node {
	n.L = nil
	if !r.isDefinable(n.S) || s.binds(n.S) {
		return n
	}
	name, ahead := r.meant(n)
	if name == n.S {
		return n
	}
	return applied(n, name, ahead)
}

// applied returns what a node becomes, which is the name of an operator with arguments.
func applied(n api.Node, name string, args []api.Node) api.Node {
	if len(args) == 0 {
		return api.Node{Kind: api.NdName, S: name, At: n.At, End: n.End}
	}
	return api.Node{Kind: api.NdCall, S: name, L: args, At: n.At, End: n.End}
}

// binding rewrites a node that binds names for its last element.
func (r *rewriter) binding(n api.Node, s *scope) api.Node {
	last := len(n.L) - 1
	ahead := r.each(n.L[:last], s)
	body := r.tree(n.L[last], s.bind(boundBy(n.L[:last])...))
	n.L = append(ahead, body)
	return n
}

// mapping rewrites an NdMap, whose first element sees the names that it binds.
func (r *rewriter) mapping(n api.Node, s *scope) api.Node {
	first := r.tree(n.L[0], s.bind(boundBy(n.L[1:])...))
	n.L = append([]api.Node{first}, r.each(n.L[1:], s)...)
	return n
}

// let rewrites an NdLet: each definition sees those ahead of it.
func (r *rewriter) let(n api.Node, s *scope) api.Node {
	made := make([]api.Node, 0, len(n.L))
	for _, d := range n.L {
		made = append(made, r.tree(d, s))
		s = s.bind(d.S)
	}
	n.L = made
	return n
}

// bind rewrites the set of an NdBind.
func (r *rewriter) bind(n api.Node, s *scope) api.Node {
	last := len(n.L) - 1
	names := mapped(n.L[:last], func(name api.Node) api.Node {
		r.made()
		return applied(name, name.S, nil)
	})
	n.L = append(names, r.tree(n.L[last], s))
	return n
}

// boundBy returns the names that nodes of the kinds NdBind and NdDecl bind.
func boundBy(l []api.Node) []string {
	var names []string
	for _, b := range l {
		if b.Kind == api.NdDecl {
			names = append(names, b.S)
			continue
		}
		for _, name := range b.L[:len(b.L)-1] {
			names = append(names, name.S)
		}
	}
	return names
}
