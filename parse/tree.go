package parse

import (
	"math"
	"slices"

	"foregone/api"
)

// Bare returns a tree without At and End.
func Bare(n api.Node) api.Node {
	n.At, n.End = 0, 0
	n.I.D = slices.Clone(n.I.D)
	n.L = slices.Clone(n.L)
	for i := range n.L {
		n.L[i] = Bare(n.L[i])
	}
	return n
}

// Same reports whether two trees are equal but for At and End.
func Same(a, b api.Node) bool {
	return a.Kind == b.Kind && a.N == b.N && a.S == b.S && a.I.Neg == b.I.Neg && slices.Equal(a.I.D, b.I.D) && slices.EqualFunc(a.L, b.L, Same)
}

// Size returns the number of nodes of a tree, and its depth.
func Size(n api.Node) (nodes, deep int) {
	e := measure{}.of(n.L)
	return plus(e.nodes, 1), e.deep + 1
}

// extent is how many nodes the trees of a list have, and how deep the deepest one is.
type extent struct{ nodes, deep int }

// elements is a list of nodes, which is told from others by where it is kept.
type elements struct {
	first *api.Node
	count int
}

// measure keeps the extents of lists. A list that is in several places of a tree is gone through once: such a tree may have more nodes than could be counted one by one.
type measure map[elements]extent

// of returns the extent of a list of nodes.
func (m measure) of(l []api.Node) extent {
	if len(l) == 0 {
		return extent{}
	}
	key := elements{&l[0], len(l)}
	if e, ok := m[key]; ok {
		return e
	}
	var all extent
	for i := range l {
		e := m.of(l[i].L)
		all.nodes = plus(all.nodes, plus(e.nodes, 1))
		all.deep = max(all.deep, e.deep+1)
	}
	m[key] = all
	return all
}

// plus returns the sum of two numbers that are not negative, or the greatest int, if it is none.
func plus(a, b int) int {
	if a > math.MaxInt-b {
		return math.MaxInt
	}
	return a + b
}

// isDeeper reports whether a tree is deeper than most says.
func isDeeper(n api.Node, most int) bool {
	if most == 0 {
		return true
	}
	return slices.ContainsFunc(n.L, func(e api.Node) bool { return isDeeper(e, most-1) })
}
