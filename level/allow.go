package level

import (
	"slices"

	"foregone/api"
)

// lid returns the greatest level that something may have for what is around it: as it stands in an element of a node.
func (k *knowledge) lid(e api.Expr, i int) int {
	switch {
	case e.Kind == api.ECall:
		return k.levels[e.N].Most[i]
	case e.Kind == api.EPrime || e.Kind == api.EUnchanged || e.Kind == api.ECompose && i == 1:
		return api.LvConst
	case e.Kind == api.EEnabled || e.Kind == api.ECompose:
		return api.LvState
	}
	return api.LvAction
}

// allowed returns the greatest level that an element of a node may have.
func (k *knowledge) allowed(e api.Expr, i int) int {
	switch e.Kind {
	case api.ECall:
		return k.levels[e.N].Most[i]
	case api.EPrime, api.EUnchanged:
		return api.LvState
	}
	return api.LvAction
}

// tops returns the greatest level that is allowed for each variable that occurs in an expression, in a scope of so many; what an ELet or EExcept binds is not allowed more through what it is made of.
func (k *knowledge) tops(e api.Expr, size int) map[int]int {
	var of func(e api.Expr, size int) map[int]int
	of = func(e api.Expr, size int) map[int]int {
		all := map[int]int{}
		if e.Kind == api.EBound || e.Kind == api.EBoundOp || e.Kind == api.EBoundArg {
			all[e.N] = api.LvAction
		}
		carried := api.LvAction
		for i := len(e.L) - 1; i >= 0; i-- { // the last element first: it tells what is allowed for that which it sees
			inner := of(e.L[i], size+sees(e, i))
			lid := min(k.lid(e, i), carried)
			for v, top := range inner {
				if v < size {
					lower(all, v, min(top, lid))
				}
			}
			if top, occurs := inner[size]; occurs && carries(e, i) {
				carried = top
			}
		}
		return all
	}
	return of(e, size)
}

// carries reports whether an element sees what the elements ahead of it amount to.
func carries(e api.Expr, i int) bool {
	return i == len(e.L)-1 && (e.Kind == api.ELet || e.Kind == api.EExcept)
}

// lower keeps the least number for a key.
func lower(m map[int]int, key, n int) {
	if old, has := m[key]; !has || n < old {
		m[key] = n
	}
}

// holder is a variable in scope: what it is bound to, and the greatest level that this may have here.
type holder struct {
	grade
	top int
}

// misplaced returns the first misplaced node of an expression in a scope.
func (k *knowledge) misplaced(e api.Expr, scope []grade) (api.Misplace, bool) {
	var wrong api.Misplace
	var look func(e api.Expr, g graded, scope []holder, allows int, path []int) bool
	look = func(e api.Expr, g graded, scope []holder, allows int, path []int) bool {
		if has, allows := k.judged(e, g, scope, allows); has > allows {
			wrong = api.Misplace{Path: path, Has: has, Allows: allows}
			return true
		}
		for i, x := range e.L {
			inner := lidded(scope, k.lid(e, i), boundBy(e, g.l, i))
			if look(x, g.l[i], inner, k.allowed(e, i), append(path, i)) {
				return true
			}
		}
		return false
	}
	found := look(e, k.graded(e, scope), lidded(nil, api.LvAction, scope), api.LvAction, nil)
	return wrong, found
}

// judged returns the level that counts for a node, and the one that is allowed for it.
func (k *knowledge) judged(e api.Expr, g graded, scope []holder, allows int) (int, int) {
	if e.Kind == api.EBound {
		h := scope[e.N]
		if h.held > h.top { // which is not more than what is allowed for the element
			return h.held, h.top
		}
	}
	if e.Kind == api.EOper && g.own <= allows {
		return api.LvAction, slices.Min(k.levels[e.N].Most)
	}
	return g.own, allows
}

// lidded returns a scope within an element where no more is allowed than a level, and with what this element sees besides.
func lidded(scope []holder, lid int, more []grade) []holder {
	inner := make([]holder, 0, len(scope)+len(more))
	for _, h := range scope {
		inner = append(inner, holder{h.grade, min(h.top, lid)})
	}
	for _, g := range more {
		inner = append(inner, holder{g, api.LvAction})
	}
	return inner
}

// wrongBody returns the first misplaced node in the body of a definition.
func (k *knowledge) wrongBody(i int) (api.Misplace, bool) {
	d := k.sp.Defs[i]
	return k.misplaced(d.Body, make([]grade, len(d.Params)))
}

// firstWrong returns the first definition with a misplaced node in its body.
func (k *knowledge) firstWrong() (int, api.Misplace, bool) {
	for i := range k.sp.Defs {
		if m, found := k.wrongBody(i); found {
			return i, m, true
		}
	}
	return 0, api.Misplace{}, false
}

// wrongPart returns the first misplaced node of a part, which is the whole if just that has too high a level.
func (k *knowledge) wrongPart(p part) (api.Misplace, bool) {
	if m, found := k.misplaced(p.e, nil); found {
		return m, true
	}
	has := k.graded(p.e, nil).own
	return api.Misplace{Has: has, Allows: p.allows}, has > p.allows
}
