package level

import (
	"slices"

	"foregone/api"
)

// Limits of a specification that have no name in package api.
const (
	maxListed = 40 // elements of Assume, Fair, Invs, Cons, ACons and Props
	maxGroups = 10
)

// isName reports whether s is a name.
func isName(s string) bool {
	if len(s) == 0 || len(s) > api.MaxName || s == "TRUE" || s == "FALSE" || !isLetter(s[0]) {
		return false
	}
	for i := range len(s) {
		if !isLetter(s[i]) && s[i] != '_' && (s[i] < '0' || s[i] > '9') {
			return false
		}
	}
	return true
}

func isLetter(b byte) bool { return b >= 'A' && b <= 'Z' || b >= 'a' && b <= 'z' }

// areNames reports whether all strings are names.
func areNames(l []string) bool {
	return !slices.ContainsFunc(l, func(s string) bool { return !isName(s) })
}

// areDifferent reports whether no string comes twice.
func areDifferent(l []string) bool {
	seen := map[string]bool{}
	for _, s := range l {
		if seen[s] {
			return false
		}
		seen[s] = true
	}
	return true
}

// namesOf returns what is called by a function for all elements.
func namesOf[T any](l []T, name func(T) string) []string {
	names := make([]string, len(l))
	for i, x := range l {
		names[i] = name(x)
	}
	return names
}

// isWhole reports whether a specification is well formed.
func isWhole(sp api.Spec) bool {
	return hasSizes(sp) && hasNames(sp) && hasGroups(sp) && hasParams(sp) && isSmall(expressions(sp)...) && hasExpressions(sp)
}

// hasSizes reports whether all lists of a specification have no more elements than they may have.
func hasSizes(sp api.Spec) bool {
	for _, n := range []int{len(sp.Assume), len(sp.Fair), len(sp.Invs), len(sp.Props), len(sp.Cons), len(sp.ACons)} {
		if n > maxListed {
			return false
		}
	}
	return len(sp.Models) <= api.MaxModels && len(sp.Consts) <= api.MaxConsts &&
		len(sp.Vars) >= 1 && len(sp.Vars) <= api.MaxVars && len(sp.Defs) <= api.MaxDefs &&
		len(sp.Groups) <= maxGroups && len(sp.View) <= 1
}

// hasNames reports whether the names of a specification are as they have to be.
func hasNames(sp api.Spec) bool {
	for _, names := range [][]string{
		sp.Models,
		namesOf(sp.Consts, func(c api.Const) string { return c.Name }),
		namesOf(sp.Vars, func(v api.Var) string { return v.Name }),
		namesOf(sp.Invs, func(n api.Named) string { return n.Name }),
		namesOf(sp.Props, func(p api.Prop) string { return p.Name }),
	} {
		if !areNames(names) || !areDifferent(names) {
			return false
		}
	}
	names := namesOf(sp.Defs, func(d api.Def) string { return d.Name })
	return areDifferent(names) && !slices.ContainsFunc(names, isNoDefName)
}

// isNoDefName reports whether s is nothing that a definition may be called.
func isNoDefName(s string) bool {
	for i := range len(s) {
		if s[i] < 33 || s[i] > 126 {
			return true
		}
	}
	return len(s) == 0 || len(s) > api.MaxName
}

// hasGroups reports whether the groups consist of different model values.
func hasGroups(sp api.Spec) bool {
	var all []string
	for _, g := range sp.Groups {
		if len(g) < 2 {
			return false
		}
		all = append(all, g...)
	}
	k := newLook(sp)
	return areDifferent(all) && !slices.ContainsFunc(all, func(s string) bool { return !k.models[s] })
}

// hasParams reports whether the parameters of all definitions are as they have to be.
func hasParams(sp api.Spec) bool {
	return !slices.ContainsFunc(sp.Defs, func(d api.Def) bool {
		return len(d.Params) > api.MaxParams || slices.ContainsFunc(d.Params, isNoArity)
	})
}

// hasExpressions reports whether the constants have values with the model values that there are, and all expressions are some.
func hasExpressions(sp api.Spec) bool {
	k := newLook(sp)
	for _, c := range sp.Consts {
		if !k.hasModels(c.V) {
			return false
		}
	}
	for _, p := range parts(sp) {
		if !k.isExpression(p.e, 0) {
			return false
		}
	}
	for i, d := range sp.Defs {
		k.within = i
		if _, found := k.first(d.Body, d.Params, 0); found {
			return false
		}
	}
	return true
}

// part is a part of a specification that is an expression, with the greatest level that it may have.
type part struct {
	kind, index int
	e           api.Expr
	allows      int
}

// parts returns the parts of a specification but for its definitions, in the order in which they are checked.
func parts(sp api.Spec) []part {
	var l []part
	add := func(kind, index, allows int, e api.Expr) { l = append(l, part{kind, index, e, allows}) }
	for i, v := range sp.Vars {
		add(api.PtType, i, api.LvConst, v.Type)
	}
	for i, e := range sp.Assume {
		add(api.PtAssume, i, api.LvConst, e)
	}
	add(api.PtInit, 0, api.LvState, sp.Init)
	add(api.PtNext, 0, api.LvAction, sp.Next)
	for i, f := range sp.Fair {
		add(api.PtFair, i, api.LvAction, f.A)
		add(api.PtSub, i, api.LvState, f.Sub)
	}
	for i, n := range sp.Invs {
		add(api.PtInv, i, api.LvState, n.E)
	}
	for i, e := range sp.Cons {
		add(api.PtCons, i, api.LvState, e)
	}
	for i, e := range sp.ACons {
		add(api.PtACons, i, api.LvAction, e)
	}
	for i, e := range sp.View {
		add(api.PtView, i, api.LvState, e)
	}
	return l
}

// expressions returns all expressions of a specification, but for those of its properties.
func expressions(sp api.Spec) []api.Expr {
	var l []api.Expr
	for _, d := range sp.Defs {
		l = append(l, d.Body)
	}
	for _, p := range parts(sp) {
		l = append(l, p.e)
	}
	return l
}
