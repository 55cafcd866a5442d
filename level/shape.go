package level

import (
	"slices"

	"foregone/api"
)

// look finds nodes that are not as they have to be.
type look struct {
	sp     api.Spec
	models map[string]bool
	within int // the definition whose body is looked at, outside if there is none
}

const outside = -1

func newLook(sp api.Spec) *look {
	k := &look{sp: sp, models: map[string]bool{}, within: outside}
	for _, m := range sp.Models {
		k.models[m] = true
	}
	return k
}

// isExpression reports whether e is an expression in the scope of so many values.
func (k *look) isExpression(e api.Expr, bound int) bool {
	_, found := k.first(e, make([]int, bound), 0)
	return !found
}

// fitsIn reports whether an expression with the right kinds of nodes is one for its size, its depth and its scopes, too.
func fitsIn(sp api.Spec, e api.Expr, bound int) bool {
	return isSmall(e) && newLook(sp).isExpression(e, bound)
}

// first returns the way back from the first node that is not as it has to be, where an expression (arity 0) or an operator has to stand.
func (k *look) first(e api.Expr, scope []int, arity int) (back []int, found bool) {
	if !k.fits(e, scope, arity) {
		return nil, true
	}
	for i, x := range e.L {
		inner := append(slices.Clip(scope), make([]int, sees(e, i))...)
		if back, found = k.first(x, inner, k.wanted(e, i)); found {
			return append(back, i), true
		}
	}
	return nil, false
}

// wanted returns the arity of the operator that has to stand as an element of a node, 0 for an expression.
func (k *look) wanted(e api.Expr, i int) int {
	if e.Kind == api.ECall {
		return k.sp.Defs[e.N].Params[i]
	}
	return 0
}

// fits reports whether a node is as it has to be, whatever its elements are.
func (k *look) fits(e api.Expr, scope []int, arity int) bool {
	if e.Kind < api.ELit || e.Kind > api.EClass {
		return false
	}
	if e.Kind == api.ELit {
		if !k.hasModels(e.V) {
			return false
		}
	} else if !sameValue(e.V, api.Val{}) {
		return false
	}
	return fitsStrings(e) && k.fitsNumber(e, scope) && k.fitsPlace(e, scope, arity) &&
		k.fitsCount(e, scope) && len(scope)+binds(e) <= api.MaxBound
}

// hasModels reports whether all names of model values in a value are those of the specification.
func (k *look) hasModels(v api.Val) bool {
	if v.Kind == api.VModel && !k.models[v.S] {
		return false
	}
	isOther := func(x api.Val) bool { return !k.hasModels(x) }
	return !slices.ContainsFunc(v.L, isOther) && !slices.ContainsFunc(v.M, isOther)
}

// fitsStrings reports whether S of a node is as it has to be.
func fitsStrings(e api.Expr) bool {
	switch e.Kind {
	case api.EField:
		return len(e.S) == 1 && isName(e.S[0])
	case api.ERecord, api.ERecSet:
		return len(e.S) > 0 && areNames(e.S) && isIncreasing(e.S)
	}
	return len(e.S) == 0
}

// isIncreasing reports whether each string is greater than the one ahead.
func isIncreasing(l []string) bool {
	for i := 1; i < len(l); i++ {
		if l[i-1] >= l[i] {
			return false
		}
	}
	return true
}

// fitsNumber reports whether N of a node is as it has to be.
func (k *look) fitsNumber(e api.Expr, scope []int) bool {
	switch e.Kind {
	case api.EVar:
		return isIndex(e.N, len(k.sp.Vars))
	case api.EConst:
		return isIndex(e.N, len(k.sp.Consts))
	case api.EBound:
		return isIndex(e.N, len(scope)) && scope[e.N] == 0
	case api.EBoundOp, api.EBoundArg:
		return isIndex(e.N, len(scope)) && scope[e.N] != 0
	case api.ECall, api.EOper:
		return k.mayCall(e.N)
	case api.EAll, api.EExists, api.EMap, api.EFun, api.ELambda:
		return e.N >= 1 && e.N <= api.MaxParams
	case api.ECase:
		return e.N == 0 || e.N == 1
	case api.EPrim:
		return e.N >= 1 && e.N <= api.MaxPrim
	case api.EClass:
		return e.N >= api.ClInt && e.N <= api.ClSeq
	}
	return e.N == 0
}

// mayCall reports whether n is the index of a definition that may be called here.
func (k *look) mayCall(n int) bool {
	if !isIndex(n, len(k.sp.Defs)) {
		return false
	}
	return k.within == outside || n < k.within || k.sp.Defs[n].Rec && k.sp.Defs[k.within].Rec
}

func isIndex(n, length int) bool { return n >= 0 && n < length }

// fitsPlace reports whether a node is an operator of this arity; if the arity is 0: whether it is no operator.
func (k *look) fitsPlace(e api.Expr, scope []int, arity int) bool {
	if isNoArity(arity) {
		return false // a definition that is not well formed asks for an operator that there is not
	}
	switch e.Kind {
	case api.EOper:
		params := k.sp.Defs[e.N].Params
		return arity != 0 && len(params) == arity && !slices.ContainsFunc(params, isOperator)
	case api.ELambda:
		return e.N == arity
	case api.EBoundArg:
		return scope[e.N] == arity
	}
	return arity == 0
}

func isOperator(arity int) bool { return arity != 0 }

// isNoArity reports whether neither a value (0) nor an operator has this number of values.
func isNoArity(arity int) bool { return arity < 0 || arity > api.MaxParams }

// fitsCount reports whether a node has as many elements as it has to have.
func (k *look) fitsCount(e api.Expr, scope []int) bool {
	switch n := len(e.L); e.Kind {
	case api.EAnd, api.EOr, api.ESet, api.ETuple:
		return true
	case api.EProduct:
		return n >= 2
	case api.ECase:
		return n >= 2 && n%2 == e.N
	case api.ECall:
		return n == len(k.sp.Defs[e.N].Params)
	case api.EBoundOp:
		return n == scope[e.N]
	default:
		return n == count(e)
	}
}

// count returns how many elements a node has to have that has its number of elements from its other fields.
func count(e api.Expr) int {
	switch e.Kind {
	case api.ELit, api.EVar, api.EConst, api.EBound, api.EOper, api.EBoundArg:
		return 0
	case api.EPrime, api.ENot, api.EPower, api.EUnion, api.EDomain, api.EEnabled, api.EUnchanged, api.EField, api.ELambda:
		return 1
	case api.EIf, api.EExcept:
		return 3
	case api.EAll, api.EExists, api.EMap, api.EFun:
		return e.N + 1
	case api.ERecord, api.ERecSet:
		return len(e.S)
	case api.EPrim:
		return countOfPrimitive(e.N)
	case api.EClass:
		if e.N == api.ClSeq {
			return 1
		}
		return 0
	}
	return 2
}

func countOfPrimitive(n int) int {
	switch n {
	case api.PNeg, api.PLen, api.PHead, api.PTail, api.PCard:
		return 1
	case api.PSubSeq:
		return 3
	}
	return 2
}
