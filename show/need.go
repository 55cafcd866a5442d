package show

import (
	"slices"

	"foregone/api"
	"foregone/parse"
)

// needed returns at which places of a well-formed tree parentheses are needed, forced ones included.
func needed(n api.Node) []bool {
	d := &decider{}
	d.elements(n, surroundings{})
	return d.par
}

// decider goes through the places of a tree in order, and decides which ones need parentheses.
type decider struct {
	par []bool // what has been decided, place by place
}

// surroundings is what decides how an expression is read besides itself.
//
// Reading goes from left to right. If an expression is read as itself up to the token behind it, all goes on as if it stood in parentheses; and while it is read, its operators are compared with the one ahead of it alone, for that one would be applied first. So of all that stands around it just the nearest sign on either side matters, if it belongs to an operator, and nothing does if it is a sign that no expression goes on with.
type surroundings struct {
	frames []frame // two at most, the outer one first
	begins bool    // whether the expression begins the argument of a substitution
	signed bool    // whether it stands behind the sign with which such an argument begins
}

// frame is a small tree, with an element that stands for an expression.
type frame struct {
	node          api.Node
	at            []int // the path of the element
	ahead, behind bool  // whether the nearest sign ahead of the expression is in this tree, and the nearest one behind it
}

// elements decides of all places within a node with some surroundings.
func (d *decider) elements(n api.Node, s surroundings) {
	for i, e := range n.L {
		inner := s.inside(n, i)
		if isPlace(n, i) {
			par := isForced(n, i) || inner.changes(e)
			d.par = append(d.par, par)
			if par {
				inner = surroundings{}
			}
		}
		d.elements(e, inner)
	}
}

// changes reports whether an expression without parentheses is not read as itself; within it, all places have some.
func (s surroundings) changes(n api.Node) bool {
	// A sign directly ahead of a name would be an argument that is an operator.
	if s.signed && (n.Kind == api.NdName || n.Kind == api.NdCall || n.Kind == api.NdQual) {
		return true
	}
	tree, bare := hollow(n), []int{}
	for _, f := range slices.Backward(s.frames) {
		tree, bare = filled(f.node, f.at, tree), slices.Concat(f.at, bare)
	}
	var par []bool
	for _, path := range paths(tree) {
		par = append(par, !isAhead(path, bare))
	}
	text, e := written(tree, par)
	if e != api.OK {
		return true
	}
	read, e := readAs(tree.Kind, text)
	return e != api.OK || !parse.Same(read, tree)
}

// isAhead reports whether a path is a beginning of another one, or this itself.
func isAhead(path, of []int) bool {
	return len(path) <= len(of) && slices.Equal(path, of[:len(path)])
}

// zero is the smallest expression.
func zero() api.Node { return api.Node{Kind: api.NdNumber} }

// hollow returns a node with 0 in the place of all expressions within it that stand in parentheses, or by themselves.
func hollow(n api.Node) api.Node {
	n.L = slices.Clone(n.L)
	for i, e := range n.L {
		isBody := n.Kind == api.NdDefine || n.Kind == api.NdFunDef
		if isPlace(n, i) || isBody && i == len(n.L)-1 {
			n.L[i] = zero()
		} else {
			n.L[i] = hollow(e)
		}
	}
	return n
}

// filled returns a tree with an expression in the place of the element with a path.
func filled(n api.Node, at []int, by api.Node) api.Node {
	if len(at) == 0 {
		return by
	}
	n.L = slices.Clone(n.L)
	n.L[at[0]] = filled(n.L[at[0]], at[1:], by)
	return n
}
