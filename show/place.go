package show

import (
	"slices"

	"foregone/api"
)

// Places returns the paths of the places of a tree at which parentheses may stand.
func Places(n api.Node) ([][]int, api.Errno) {
	if !isShown(n) {
		return nil, api.ErrTree
	}
	return paths(n), api.OK
}

// paths returns the paths of the places of a well-formed tree.
func paths(n api.Node) [][]int {
	var found [][]int
	var path []int
	var walk func(n api.Node)
	walk = func(n api.Node) {
		for i, e := range n.L {
			path = append(path, i)
			if isPlace(n, i) {
				found = append(found, slices.Clone(path))
			}
			walk(e)
			path = path[:len(path)-1]
		}
	}
	walk(n)
	return found
}

// countPlaces returns how many places a well-formed tree has.
func countPlaces(n api.Node) int {
	count := 0
	for i, e := range n.L {
		if isPlace(n, i) {
			count++
		}
		count += countPlaces(e)
	}
	return count
}

// everywhere returns parentheses for all places of a tree.
func everywhere(n api.Node) []bool { return slices.Repeat([]bool{true}, countPlaces(n)) }

// isPlace reports whether the element i of a node of a well-formed tree is a place.
func isPlace(n api.Node, i int) bool {
	if !isExpression(n.L[i].Kind) {
		return false
	}
	switch n.Kind {
	case api.NdBind:
		return i == len(n.L)-1
	case api.NdExtends, api.NdQual, api.NdAssume, api.NdTheorem, api.NdVar, api.NdDefine, api.NdFunDef:
		return false
	}
	return true
}

// isExpression reports whether nodes of a kind are expressions.
func isExpression(kind int) bool {
	switch kind {
	case api.NdBind, api.NdField, api.NdUpdate, api.NdStep, api.NdArm:
		return false
	}
	return kind >= api.NdName && kind <= api.NdFair
}

// isForced reports whether the element i of a node, which is a place, has parentheses in any case.
func isForced(n api.Node, i int) bool {
	switch n.Kind {
	case api.NdSquare, api.NdAngle:
		return i == 1 && !isSubscript(n.L[i])
	case api.NdFair:
		return i == 0 && !isSubscript(n.L[i])
	case api.NdMap:
		return i == 0 && looksBound(n.L[i])
	}
	return false
}

// isSubscript reports whether an expression is a subscript without parentheses.
func isSubscript(n api.Node) bool {
	switch n.Kind {
	case api.NdName, api.NdTuple:
		return true
	case api.NdQual:
		return areNames(n.L)
	}
	return false
}

// looksBound reports whether an expression would be read as a binder if : stood behind it.
func looksBound(n api.Node) bool {
	if n.Kind != api.NdInfix || n.S != `\in` {
		return false
	}
	left := n.L[0]
	return left.Kind == api.NdName || left.Kind == api.NdTuple && len(left.L) > 0 && areNames(left.L)
}

func areNames(l []api.Node) bool {
	return !slices.ContainsFunc(l, func(n api.Node) bool { return n.Kind != api.NdName })
}
