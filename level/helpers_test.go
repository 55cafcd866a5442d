package level_test

import (
	"fmt"
	"slices"
	"strings"
	"testing"

	"foregone/api"
	"foregone/level"
)

// Short ways to write expressions.

func ex(kind int, l ...api.Expr) api.Expr { return api.Expr{Kind: kind, L: l} }

func exn(kind, n int, l ...api.Expr) api.Expr { return api.Expr{Kind: kind, N: n, L: l} }

func exs(kind int, s string, l ...api.Expr) api.Expr {
	return api.Expr{Kind: kind, S: strings.Fields(s), L: l}
}

func num(n int) api.Expr {
	v := api.Val{Kind: api.VInt}
	if n > 0 {
		v.I.D = []int{n}
	}
	return api.Expr{Kind: api.ELit, V: v}
}

func model(s string) api.Val { return api.Val{Kind: api.VModel, S: s} }

func b(n int) api.Expr                      { return exn(api.EBound, n) }
func prime(e api.Expr) api.Expr             { return ex(api.EPrime, e) }
func unchanged(e api.Expr) api.Expr         { return ex(api.EUnchanged, e) }
func enabled(e api.Expr) api.Expr           { return ex(api.EEnabled, e) }
func then(e, f api.Expr) api.Expr           { return ex(api.ECompose, e, f) }
func eq(e, f api.Expr) api.Expr             { return ex(api.EEq, e, f) }
func plus(e, f api.Expr) api.Expr           { return exn(api.EPrim, api.PAdd, e, f) }
func let(e, f api.Expr) api.Expr            { return ex(api.ELet, e, f) }
func except(e, f, g api.Expr) api.Expr      { return ex(api.EExcept, e, f, g) }
func call(d int, l ...api.Expr) api.Expr    { return exn(api.ECall, d, l...) }
func oper(d int) api.Expr                   { return exn(api.EOper, d) }
func lambda(n int, e api.Expr) api.Expr     { return exn(api.ELambda, n, e) }
func apply(n int, l ...api.Expr) api.Expr   { return exn(api.EBoundOp, n, l...) }
func handed(n int) api.Expr                 { return exn(api.EBoundArg, n) }
func all(n int, l ...api.Expr) api.Expr     { return exn(api.EAll, n, l...) }
func def(name string, e api.Expr) api.Def   { return api.Def{Name: name, Body: e} }
func rec(d api.Def) api.Def                 { d.Rec = true; return d }
func with(d api.Def, params ...int) api.Def { d.Params = params; return d }

var (
	x = exn(api.EVar, 0)
	y = exn(api.EVar, 1)
	c = exn(api.EConst, 0)
)

// small returns a specification with the variables x, y, the constant c, the model values a, b, and some definitions.
func small(defs ...api.Def) api.Spec {
	return api.Spec{
		Models: []string{"a", "b"},
		Consts: []api.Const{{Name: "c", V: model("a")}},
		Vars:   []api.Var{{Name: "x", Type: num(0)}, {Name: "y", Type: num(0)}},
		Defs:   defs,
		Init:   num(0),
		Next:   num(0),
	}
}

// The definitions of the chapter's examples.
const dInc, dPrime, dEn, dUse = 0, 1, 2, 3

func examples() api.Spec {
	return small(
		with(def("Inc", plus(b(0), num(1))), 0),
		with(def("Prime", eq(prime(b(0)), b(0))), 0),
		with(def("En", enabled(eq(prime(x), b(0)))), 0),
		with(def("Use", apply(0, x)), 1),
	)
}

// shown returns a short text of an expression.
func shown(e api.Expr) string {
	s := fmt.Sprint(e.Kind)
	if e.N != 0 || e.Kind == api.EBound {
		s += fmt.Sprint(":", e.N)
	}
	if len(e.S) > 0 {
		s += fmt.Sprint(e.S)
	}
	if e.V.Kind != 0 {
		s += fmt.Sprint("=", e.V.Kind, e.V.S, e.V.I.D)
	}
	for _, f := range e.L {
		s += " " + shown(f)
	}
	if len(e.L) == 0 {
		return s
	}
	return "(" + s + ")"
}

// cut returns the beginning of a text.
func cut(s string) string {
	if len(s) > 400 {
		return s[:400] + ".."
	}
	return s
}

// specShown returns a short text of the definitions of a specification.
func specShown(sp api.Spec) string {
	var l []string
	for i, d := range sp.Defs {
		l = append(l, fmt.Sprint(i, d.Params, d.Rec, " == ", shown(d.Body)))
	}
	return cut(strings.Join(l, "; "))
}

// clone returns a copy of an expression that shares no list of elements with it.
func clone(e api.Expr) api.Expr {
	e.L = slices.Clone(e.L)
	for i := range e.L {
		e.L[i] = clone(e.L[i])
	}
	return e
}

// at returns the node at a path.
func at(e api.Expr, path []int) api.Expr {
	for _, i := range path {
		e = e.L[i]
	}
	return e
}

// replaced returns an expression with another node at a path.
func replaced(e api.Expr, path []int, f api.Expr) api.Expr {
	e = clone(e)
	if len(path) == 0 {
		return f
	}
	e.L[path[0]] = replaced(e.L[path[0]], path[1:], f)
	return e
}

// paths returns the paths of all nodes, a node ahead of its elements.
func paths(e api.Expr) [][]int {
	l := [][]int{nil}
	for i, f := range e.L {
		for _, p := range paths(f) {
			l = append(l, append([]int{i}, p...))
		}
	}
	return l
}

// conj returns a conjunction that has so many nodes.
func conj(nodes int) api.Expr {
	return ex(api.EAnd, slices.Repeat([]api.Expr{x}, nodes-1)...)
}

// deep returns an expression that is so deep.
func deep(n int) api.Expr {
	e := x
	for range n - 1 {
		e = ex(api.ENot, e)
	}
	return e
}

// binders returns an expression in which n further variables are in scope at the deepest place, where e stands.
func binders(n int, e api.Expr) api.Expr {
	for range n {
		e = let(num(0), e)
	}
	return e
}

func same(a, b api.Misplace) bool {
	return slices.Equal(a.Path, b.Path) && a.Has == b.Has && a.Allows == b.Allows
}

func isZero(e api.Expr) bool { return level.Same(e, api.Expr{}) }

// wantOf compares what Of returns.
func wantOf(t *testing.T, sp api.Spec, e api.Expr, bound int, want int) {
	t.Helper()
	got, m, err := level.Of(sp, e, bound)
	if got != want || err != api.OK || !same(m, api.Misplace{}) {
		t.Errorf("%s: %d, %v, error %d, want %d", cut(shown(e)), got, m, err, want)
	}
}

// wantMisplaced compares the misplaced node that Of returns.
func wantMisplaced(t *testing.T, sp api.Spec, e api.Expr, bound int, has, allows int, path ...int) {
	t.Helper()
	got, m, err := level.Of(sp, e, bound)
	if got != 0 || err != api.ErrLevel || !same(m, api.Misplace{Path: path, Has: has, Allows: allows}) {
		t.Errorf("%s: %d, %v, error %d, want %v", cut(shown(e)), got, m, err, api.Misplace{Path: path, Has: has, Allows: allows})
	}
}
