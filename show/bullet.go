package show

import (
	"foregone/api"
	"foregone/parse"
)

// Unbullet returns a tree with infix operators in the place of bulleted lists.
func Unbullet(n api.Node) (api.Node, api.Errno) { return changed(n, unbullet) }

// Bullet returns a tree with bulleted lists in the place of repeated conjunctions and disjunctions.
func Bullet(n api.Node) (api.Node, api.Errno) { return changed(n, bullet) }

// changed returns what change makes of a tree.
func changed(n api.Node, change func(n api.Node) api.Node) (api.Node, api.Errno) {
	if !isShown(n) {
		return api.Node{}, api.ErrTree
	}
	n = change(parse.Bare(n))
	if nodes, deep := parse.Size(n); nodes > api.MaxTokens || deep > api.MaxDeepN {
		return api.Node{}, api.ErrLimit
	}
	return n, api.OK
}

// unbullet changes a tree that no one else has.
func unbullet(n api.Node) api.Node {
	for i, e := range n.L {
		n.L[i] = unbullet(e)
	}
	if n.Kind != api.NdJunct {
		return n
	}
	all := n.L[0]
	for _, item := range n.L[1:] {
		all = api.Node{Kind: api.NdInfix, S: n.S, L: []api.Node{all, item}}
	}
	return all
}

// bullet changes a tree that no one else has.
func bullet(n api.Node) api.Node {
	if isJunction(n) {
		n = api.Node{Kind: api.NdJunct, S: n.S, L: operands(n, n.S)}
	}
	for i, e := range n.L {
		n.L[i] = bullet(e)
	}
	return n
}

// isJunction reports whether a node is an infix operator that a bulleted list can stand for.
func isJunction(n api.Node) bool {
	return n.Kind == api.NdInfix && (n.S == `/\` || n.S == `\/`)
}

// operands returns the elements to which left elements lead that are infix operators with a sign.
func operands(n api.Node, sign string) []api.Node {
	if !isJunction(n) || n.S != sign {
		return []api.Node{n}
	}
	return append(operands(n.L[0], sign), n.L[1])
}
