package level

import (
	"cmp"
	"maps"
	"slices"

	"foregone/api"
)

// binds returns how many more variables the last element of a node sees.
func binds(e api.Expr) int {
	switch e.Kind {
	case api.EAll, api.EExists, api.EMap, api.EFun, api.ELambda:
		return e.N
	case api.EChoose, api.EFilter, api.ELet, api.EExcept:
		return 1
	}
	return 0
}

// sees returns how many more variables an element of a node sees.
func sees(e api.Expr, i int) int {
	switch {
	case i == len(e.L)-1:
		return binds(e)
	case e.Kind == api.EAll || e.Kind == api.EExists:
		return i
	}
	return 0
}

// isSmall reports whether an expression has no more nodes, and no deeper ones, than an expression may have.
func isSmall(l ...api.Expr) bool {
	left := api.MaxNodes
	var within func(e api.Expr, deep int) bool
	within = func(e api.Expr, deep int) bool {
		left--
		if left < 0 || deep > api.MaxDeep {
			return false
		}
		return !slices.ContainsFunc(e.L, func(x api.Expr) bool { return !within(x, deep+1) })
	}
	return !slices.ContainsFunc(l, func(e api.Expr) bool { return !within(e, 1) })
}

// occurring returns the variables of a scope of so many values that occur in an expression.
func occurring(e api.Expr, bound int) map[int]bool {
	l := map[int]bool{}
	var collect func(e api.Expr)
	collect = func(e api.Expr) {
		if e.Kind == api.EBound && e.N < bound {
			l[e.N] = true
		}
		for _, x := range e.L {
			collect(x)
		}
	}
	collect(e)
	return l
}

// bare returns a copy of a node that has room for its elements, and none of them yet.
func bare(e api.Expr) api.Expr {
	return api.Expr{Kind: e.Kind, N: e.N, S: slices.Clone(e.S), V: copied(e.V), L: make([]api.Expr, len(e.L))}
}

// copied returns a copy of a value that shares no memory with it.
func copied(v api.Val) api.Val {
	v.I.D = slices.Clone(v.I.D)
	v.L = slices.Clone(v.L)
	v.M = slices.Clone(v.M)
	for i := range v.L {
		v.L[i] = copied(v.L[i])
	}
	for i := range v.M {
		v.M[i] = copied(v.M[i])
	}
	return v
}

// sameValue reports whether two values are equal in all of their fields.
func sameValue(a, b api.Val) bool {
	return a.Kind == b.Kind && a.N == b.N && a.S == b.S &&
		a.I.Neg == b.I.Neg && slices.Equal(a.I.D, b.I.D) &&
		slices.EqualFunc(a.L, b.L, sameValue) && slices.EqualFunc(a.M, b.M, sameValue)
}

// sortedKeys returns the keys of a map, increasing.
func sortedKeys[K cmp.Ordered, V any](m map[K]V) []K {
	return slices.Sorted(maps.Keys(m))
}

// stopped is why a work ends ahead of its end. It leaves by a panic.
type stopped struct{ err api.Errno }

// attempt returns what is made, or why its making stopped.
func attempt[T any](do func() T) (result T, err api.Errno) {
	defer func() {
		if s, ok := recover().(stopped); ok {
			err = s.err
		}
	}()
	return do(), api.OK
}

// budget counts up to the greatest number of nodes.
type budget struct{ used int }

// spend counts one more, and stops the work if that is too many.
func (b *budget) spend() {
	b.used++
	if b.used > api.MaxNodes {
		panic(stopped{api.ErrLimit})
	}
}
