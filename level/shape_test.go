package level_test

import (
	"fmt"
	"math"
	"slices"
	"strings"
	"testing"

	"foregone/api"
	"foregone/level"
)

// shapes returns a specification with definitions that have each number of values as parameters (Vk), and that take an operator of each arity (Tk), for k from 1 to 8.
func shapes() api.Spec {
	sp := small()
	for k := 1; k <= 8; k++ {
		sp.Defs = append(sp.Defs, with(def(fmt.Sprint("V", k), b(k-1)), make([]int, k)...))
	}
	for k := 1; k <= 8; k++ {
		sp.Defs = append(sp.Defs, with(def(fmt.Sprint("T", k), apply(0, slices.Repeat([]api.Expr{x}, k)...)), k))
	}
	return sp
}

func defV(k int) int { return k - 1 }

func defT(k int) int { return k + 7 }

// tScope is a scope of a value, an operator of each arity, and a value.
var tScope = []int{0, 1, 2, 3, 4, 5, 6, 7, 8, 0}

// wantWhere compares what Where returns in tScope.
func wantWhere(t *testing.T, sp api.Spec, e api.Expr, right bool, path ...int) {
	t.Helper()
	got, found := level.Where(sp, e, tScope)
	if found == right || !slices.Equal(got, path) {
		t.Errorf("%s: %v, %v, want %v, %v", cut(shown(e)), got, found, path, !right)
	}
}

// samples returns nodes of a kind, with each N that makes a difference, and with the number of elements that is given for them (0 if there is none); they have no elements yet.
func samples(kind int) (l []api.Expr, given []int) {
	add := func(n, elements int) {
		l, given = append(l, exn(kind, n)), append(given, elements)
	}
	switch kind {
	case api.EAll, api.EExists, api.EMap, api.EFun:
		for n := 1; n <= 8; n++ {
			add(n, 0)
		}
	case api.ECase:
		add(0, 0)
		add(1, 0)
	case api.EPrim:
		for n := 1; n <= 19; n++ {
			add(n, 0)
		}
	case api.EClass:
		for n := 1; n <= 4; n++ {
			add(n, 0)
		}
	case api.ECall:
		for k := 1; k <= 8; k++ {
			add(defV(k), k)
		}
	case api.EBoundOp:
		for k := 1; k <= 8; k++ {
			add(k, k)
		}
	case api.ERecord, api.ERecSet:
		for k := 1; k <= 3; k++ {
			add(0, 0)
			l[k-1].S = []string{"a", "b", "c"}[:k]
		}
	case api.EField:
		add(0, 0)
		l[0].S = []string{"a"}
	default:
		add(0, 0)
	}
	return l, given
}

// eachNode calls a function for samples of all kinds that are no operators.
func eachNode(do func(e api.Expr, given int)) {
	for kind := range rows {
		if kind == api.EOper || kind == api.ELambda || kind == api.EBoundArg {
			continue
		}
		l, given := samples(kind)
		for i, e := range l {
			do(e, given[i])
		}
	}
}

// P6.1
func TestRows(t *testing.T) {
	sp := shapes()
	eachNode(func(e api.Expr, given int) {
		r, _ := rowOf(e, given)
		for n := range 12 {
			e.L = slices.Repeat([]api.Expr{x}, n)
			right := n >= r.least && (r.most < 0 || n <= r.most)
			if e.Kind == api.ECase {
				right = right && n%2 == e.N
			}
			wantWhere(t, sp, e, right)
		}
	})
	if len(rows) != api.EClass {
		t.Errorf("%d rows", len(rows))
	}
}

// filled returns a node with as many elements as its row says at least.
func filled(e api.Expr, given int) api.Expr {
	r, _ := rowOf(e, given)
	e.L = slices.Repeat([]api.Expr{x}, r.least)
	return e
}

// P6.1
func TestFields(t *testing.T) {
	sp := shapes()
	eachNode(func(e api.Expr, given int) {
		r, _ := rowOf(e, given)
		e = filled(e, given)
		wantWhere(t, sp, e, true)
		for _, n := range []int{-1, 1, 50, math.MaxInt, math.MinInt} {
			f := e
			f.N = n
			if r.fields != "N" || n != 1 {
				wantWhere(t, sp, f, false)
			}
		}
		if r.fields != "S" {
			f := e
			f.S = []string{"a"}
			wantWhere(t, sp, f, false)
		}
		if r.fields != "V" {
			for _, v := range []api.Val{{Kind: 1}, {N: 1}, {S: "a"}, {I: api.Int{Neg: true}}, {I: api.Int{D: []int{0}}}, {L: make([]api.Val, 1)}, {M: make([]api.Val, 1)}} {
				f := e
				f.V = v
				wantWhere(t, sp, f, false)
			}
			f := e
			f.V = api.Val{I: api.Int{D: []int{}}, L: []api.Val{}, M: []api.Val{}}
			f.L = append([]api.Expr{}, f.L...)
			wantWhere(t, sp, f, true)
		}
	})
}

// P6.1
func TestNumbers(t *testing.T) {
	sp := shapes()
	sp.Consts = append(sp.Consts, api.Const{Name: "d"})
	for _, l := range []struct {
		e     api.Expr
		right bool
	}{
		{exn(api.EVar, 1), true}, {exn(api.EVar, 2), false}, {exn(api.EConst, 1), true}, {exn(api.EConst, 2), false},
		{b(0), true}, {b(9), true}, {b(1), false}, {b(8), false}, {b(10), false}, {b(-1), false},
		{apply(0), false}, {apply(0, x), false}, {apply(1, x), true}, {apply(9, x), false}, {apply(10, x), false}, {apply(-1), false},
		{call(0, x), true}, {call(16, x), false}, {call(-1), false},
		{exn(api.EPrim, 0, x, x), false}, {exn(api.EPrim, 20, x, x), false},
		{exn(api.EClass, 0), false}, {exn(api.EClass, 5), false},
		{exn(api.ECase, 2, x, x, x, x), false}, {exn(api.ECase, -1, x, x, x), false}, {exn(api.ECase, 1, x), false}, {exn(api.ECase, 0), false},
		{all(0, x), false}, {all(9, slices.Repeat([]api.Expr{x}, 10)...), false}, {all(-1), false},
		{exn(api.EMap, 0, x), false}, {exn(api.EFun, 9, slices.Repeat([]api.Expr{x}, 10)...), false},
		{exn(api.EExists, math.MaxInt), false}, {exn(api.EFun, math.MinInt), false},
		{ex(0), false}, {ex(-1), false}, {ex(48), false}, {api.Expr{}, false},
	} {
		wantWhere(t, sp, l.e, l.right)
	}
}

// P6.1
func TestFieldNames(t *testing.T) {
	sp := shapes()
	long := strings.Repeat("a", 40)
	for s, right := range map[string]bool{
		"a": true, "Z": true, "a_1": true, "zZ09_": true, long: true, "TRUE1": true, "True": true, "FALSE_": true, "Int": true, "IN": true,
		"": false, "_a": false, "1a": false, "a-b": false, "a b": false, "a!": false, "TRUE": false, "FALSE": false, long + "a": false, "\xc3\xa4": false, "a\x00": false,
	} {
		wantWhere(t, sp, api.Expr{Kind: api.EField, S: []string{s}, L: []api.Expr{x}}, right)
		wantWhere(t, sp, api.Expr{Kind: api.ERecord, S: []string{s}, L: []api.Expr{x}}, right)
		wantWhere(t, sp, api.Expr{Kind: api.ERecSet, S: []string{s}, L: []api.Expr{x}}, right)
	}
	for _, l := range []struct {
		s     string
		right bool
	}{{"", false}, {"a b", true}, {"b a", false}, {"a a", false}, {"Z a", true}, {"a Z", false}, {"a aa ab b", true}, {"a1 a_ aa", true}, {"a b TRUE", false}, {"FALSE a", false}} {
		n := len(strings.Fields(l.s))
		wantWhere(t, sp, exs(api.ERecord, l.s, slices.Repeat([]api.Expr{x}, n)...), l.right)
		wantWhere(t, sp, exs(api.ERecSet, l.s, slices.Repeat([]api.Expr{x}, n)...), l.right)
	}
	wantWhere(t, sp, exs(api.EField, "a b", x), false)
	wantWhere(t, sp, exs(api.EField, "", x), false)
}

// P6.1
func TestLiterals(t *testing.T) {
	sp := shapes()
	a, q := model("a"), model("q")
	set := func(l ...api.Val) api.Val { return api.Val{Kind: api.VSet, L: l} }
	fun := func(l, m []api.Val) api.Val { return api.Val{Kind: api.VFun, L: l, M: m} }
	for _, l := range []struct {
		v     api.Val
		right bool
	}{
		{api.Val{}, true}, {api.Val{Kind: 77, N: -5, S: "q"}, true}, {a, true}, {q, false}, {api.Val{Kind: api.VStr, S: "q"}, true},
		{set(a, model("b")), true}, {set(a, set(q)), false}, {fun([]api.Val{a}, []api.Val{set()}), true},
		{fun([]api.Val{q}, []api.Val{a}), false}, {fun([]api.Val{a}, []api.Val{set(q)}), false},
		{api.Val{Kind: api.VModel, S: "a", L: []api.Val{q}}, false}, {api.Val{Kind: api.VInt, M: []api.Val{q}}, false}, {model(""), false},
	} {
		wantWhere(t, sp, api.Expr{Kind: api.ELit, V: l.v}, l.right)
	}
}

// P6.1
func TestBinders(t *testing.T) {
	sp := shapes()
	n := len(tScope)
	wantWhere(t, sp, all(3, x, b(n), b(n+1), ex(api.ESet, b(n), b(n+1), b(n+2))), true)
	wantWhere(t, sp, exn(api.EExists, 3, x, b(n), b(n+2), x), false, 2)
	wantWhere(t, sp, all(1, b(n), x), false, 0)
	wantWhere(t, sp, all(1, x, b(n+1)), false, 1)
	for _, kind := range []int{api.EMap, api.EFun} {
		wantWhere(t, sp, exn(kind, 2, x, x, eq(b(n), b(n+1))), true)
		wantWhere(t, sp, exn(kind, 2, x, b(n), x), false, 1)
		wantWhere(t, sp, exn(kind, 2, x, x, b(n+2)), false, 2)
	}
	for _, kind := range []int{api.EChoose, api.EFilter, api.ELet} {
		wantWhere(t, sp, ex(kind, x, b(n)), true)
		wantWhere(t, sp, ex(kind, b(n), x), false, 0)
		wantWhere(t, sp, ex(kind, x, b(n+1)), false, 1)
	}
	wantWhere(t, sp, except(x, x, b(n)), true)
	wantWhere(t, sp, except(b(n), x, x), false, 0)
	wantWhere(t, sp, except(x, b(n), x), false, 1)
	wantWhere(t, sp, except(x, x, b(n+1)), false, 2)
	for _, kind := range []int{api.EAnd, api.ESet, api.ETuple, api.EProduct, api.EImplies, api.ECompose} {
		wantWhere(t, sp, ex(kind, x, b(n)), false, 1)
	}
}

// P6.1: scopes of 40 variables, and of one more.
func TestScopes(t *testing.T) {
	sp := shapes()
	eight := slices.Repeat([]api.Expr{x}, 9)
	for _, l := range []struct {
		e    api.Expr
		more int
	}{
		{x, 0}, {let(x, x), 1}, {ex(api.EChoose, x, x), 1}, {ex(api.EFilter, x, x), 1}, {except(x, x, x), 1},
		{all(1, x, x), 1}, {all(8, eight...), 8}, {exn(api.EExists, 8, eight...), 8}, {exn(api.EMap, 8, eight...), 8}, {exn(api.EFun, 8, eight...), 8},
		{call(defT(8), lambda(8, x)), 8},
	} {
		for _, bound := range []int{40 - l.more, 41 - l.more} {
			path, found := level.Where(sp, l.e, make([]int, bound))
			var want []int
			if bound <= 40 && l.e.Kind == api.ECall {
				want = []int{0}
			}
			if found != (bound+l.more > 40) || found && !slices.Equal(path, want) {
				t.Errorf("%s in %d: %v, %v", shown(l.e), bound, path, found)
			}
			inner := binders(bound, l.e)
			path, found = level.Where(sp, inner, nil)
			if found != (bound+l.more > 40) {
				t.Errorf("%s within %d: %v, %v", shown(l.e), bound, path, found)
			}
		}
	}
	if path, found := level.Where(sp, binders(41, x), nil); !found || len(path) != 40 || slices.Contains(path, 0) {
		t.Errorf("%v, %v", path, found)
	}
	if err := level.Shape(sp, binders(40, x), 0); err != api.OK {
		t.Errorf("error %d", err)
	}
	if err := level.Shape(sp, binders(40, x), 1); err != api.ErrExpr {
		t.Errorf("error %d", err)
	}
}

// P6.1
func TestOperators(t *testing.T) {
	sp := shapes()
	for k := 1; k <= 8; k++ {
		for n := 1; n <= 8; n++ {
			for _, f := range []api.Expr{oper(defV(n)), lambda(n, b(len(tScope)+n-1)), handed(n)} {
				if n == k {
					wantWhere(t, sp, call(defT(k), f), true)
				} else {
					wantWhere(t, sp, call(defT(k), f), false, 0)
				}
				wantWhere(t, sp, call(defV(1), f), false, 0)
				wantWhere(t, sp, f, false)
				wantWhere(t, sp, ex(api.EAnd, x, f), false, 1)
				wantWhere(t, sp, lambda(1, f), false)
			}
		}
		wantWhere(t, sp, call(defT(k), lambda(k, b(len(tScope)+k))), false, 0, 0)
		wantWhere(t, sp, call(defT(k), lambda(k, handed(1))), false, 0, 0)
		wantWhere(t, sp, call(defT(k), x), false, 0)
		wantWhere(t, sp, call(defT(k), b(0)), false, 0)
		wantWhere(t, sp, call(defT(k), oper(defT(k))), false, 0)
		wantWhere(t, sp, apply(k, slices.Repeat([]api.Expr{handed(1)}, k)...), false, 0)
	}
	for _, f := range []api.Expr{oper(16), oper(-1), handed(0), handed(-1), handed(10), lambda(0, x), lambda(-1, x), lambda(9, x), lambda(math.MaxInt, x)} {
		for k := 1; k <= 8; k++ {
			wantWhere(t, sp, call(defT(k), f), false, 0)
		}
	}
	bad := lambda(1, x)
	bad.L = nil
	wantWhere(t, sp, call(defT(1), bad), false, 0)
	bad.L = []api.Expr{x, x}
	wantWhere(t, sp, call(defT(1), bad), false, 0)
	bad = oper(defV(1))
	bad.L = []api.Expr{x}
	wantWhere(t, sp, call(defT(1), bad), false, 0)
	bad = handed(1)
	bad.L = []api.Expr{x}
	wantWhere(t, sp, call(defT(1), bad), false, 0)
	bad = handed(1)
	bad.S = []string{"a"}
	wantWhere(t, sp, call(defT(1), bad), false, 0)
}

// P6.1: elements are looked at in order, behind their node.
func TestFirstWrong(t *testing.T) {
	sp := shapes()
	wrong := exn(api.EVar, 9)
	wantWhere(t, sp, ex(api.EAnd, x, ex(api.ENot, wrong), wrong), false, 1, 0)
	wantWhere(t, sp, ex(api.ENot, wrong, wrong), false)
	wantWhere(t, sp, ex(api.EAnd, x, ex(api.ENot, x, wrong), wrong), false, 1)
	wantWhere(t, sp, call(defT(1), lambda(1, ex(api.EIf, x, wrong, wrong))), false, 0, 0, 1)
	long := ex(api.EAnd)
	for range 200 {
		long = ex(api.EAnd, x, long)
	}
	wantWhere(t, sp, replaced(long, slices.Repeat([]int{1}, 200), wrong), false, slices.Repeat([]int{1}, 200)...)
	wantWhere(t, sp, long, true) // depths and numbers of nodes are not looked at
	wantWhere(t, sp, conj(5000), true)
}

// P6.1: scopes and specifications that are none.
func TestWhereOfAnything(t *testing.T) {
	sp := shapes()
	for _, scope := range [][]int{{-1}, {9}, {0, 1, 9}, make([]int, 41), {math.MinInt}} {
		if path, found := level.Where(sp, ex(api.EAnd, exn(api.EVar, 9)), scope); !found || len(path) != 0 {
			t.Errorf("%v: %v, %v", scope, path, found)
		}
	}
	if path, found := level.Where(sp, x, slices.Repeat([]int{8}, 40)); found || len(path) != 0 {
		t.Errorf("%v, %v", path, found)
	}
	odd := api.Spec{Models: []string{"1", "1"}, Consts: make([]api.Const, 50), Vars: make([]api.Var, 30), Defs: []api.Def{{Params: []int{9}}, {Params: []int{-1}}, {Params: []int{0, 0}}}}
	for _, l := range []struct {
		e    api.Expr
		path []int
	}{
		{exn(api.EVar, 29), nil}, {exn(api.EConst, 49), nil}, {api.Expr{Kind: api.ELit, V: model("1")}, nil},
		{call(2, x, x), nil}, {call(2, x), []int{}}, {call(1, x), []int{0}}, {call(1, lambda(-1, x)), []int{0}}, {call(0, x), []int{0}}, {call(0, oper(2)), []int{0}},
	} {
		path, found := level.Where(odd, l.e, nil)
		if found != (l.path != nil) || !slices.Equal(path, l.path) {
			t.Errorf("%s: %v, %v", shown(l.e), path, found)
		}
	}
}

// operators returns an operator for each way to write one of so many values, as definitions and scope admit it, with a body that is no expression and with one that is.
func operators(sp api.Spec, scope []int, values int) []api.Expr {
	l := []api.Expr{lambda(values, x), lambda(values, api.Expr{}), lambda(values, lambda(values, x))}
	for d, f := range sp.Defs {
		if len(f.Params) == values {
			l = append(l, oper(d))
		}
	}
	for i, arity := range scope {
		if arity == values {
			l = append(l, handed(i))
		}
	}
	return l
}

// P6.1: an operator has 1 to 8 values; where a definition that is not well formed asks for another number, nothing is one.
func TestArities(t *testing.T) {
	for _, arity := range []int{math.MinInt, -9, -1, 9, 10, 39, 40, 41, 100, math.MaxInt} {
		sp := shapes()
		odd := len(sp.Defs)
		sp.Defs = append(sp.Defs, with(def("Odd", x), arity), with(def("Late", x), 0, 1, arity, arity))
		for _, k := range []int{9, 10, 39, 40, 41, 100} {
			sp.Defs = append(sp.Defs, with(def(fmt.Sprint("V", k), x), make([]int, k)...))
		}
		elements := []api.Expr{x, num(1), b(0), conj(9), {}, oper(odd), call(odd), apply(1, x)}
		for _, k := range []int{arity, -1, 0, 1, 8, 9, 40} {
			elements = append(elements, operators(sp, tScope, k)...)
		}
		for _, e := range elements {
			wantWhere(t, sp, call(odd, e), false, 0)
			wantWhere(t, sp, ex(api.EAnd, x, call(odd, e)), false, 1, 0)
			wantWhere(t, sp, call(odd+1, x, lambda(1, x), e, e), false, 2)
			wantWhere(t, sp, call(defT(1), lambda(1, call(odd, e))), false, 0, 0, 0)
		}
		wantWhere(t, sp, call(odd), false)
		wantWhere(t, sp, call(odd, x, x), false)
		wantWhere(t, sp, call(odd+1, x, x, x, x), false, 1)
	}
}

// P6.1: calls do not ask whether what they call is well formed, further than what their elements have to be.
func TestCallsOfAnything(t *testing.T) {
	sp := small()
	for k := 0; k <= 50; k++ {
		sp.Defs = append(sp.Defs, with(def(fmt.Sprint("V", k), x), make([]int, k)...))
	}
	for k := range sp.Defs {
		for n := 0; n <= 50; n++ {
			wantWhere(t, sp, call(k, slices.Repeat([]api.Expr{x}, n)...), n == k)
		}
	}
	sp = small(with(def("Use", x), slices.Repeat([]int{8}, 12)...), with(def("V8", x), make([]int, 8)...))
	for _, f := range []api.Expr{oper(1), lambda(8, x), handed(8)} {
		wantWhere(t, sp, call(0, slices.Repeat([]api.Expr{f}, 12)...), true)
	}
}

// P6.1, P6.11: also of specifications that are not well formed.
func TestWhereOfOddSpecs(t *testing.T) {
	wrong, right := 0, 0
	for seed := range 6000 {
		m := newMaker(seed)
		sp := m.oddSpec()
		scope := []int{0, 1, 8, 0, 7}
		e := m.expr(scope, 3+m.IntN(15))
		path, found := level.Where(sp, e, scope)
		want, wanted := refWhere(sp, -1, e, scope, 0)
		if found != wanted || !slices.Equal(path, want) {
			t.Fatalf("%d: %v, %v, want %v, %v: %s", seed, path, found, want, wanted, cut(shown(e)))
		}
		if !found {
			right++
			continue
		}
		wrong++
		if next, again := level.Where(sp, replaced(e, path, num(1)), scope); again && slices.Compare(next, path) < 0 {
			t.Fatalf("%d: %v behind %v: %s", seed, next, path, cut(shown(e)))
		}
	}
	if wrong < 1000 || right < 1000 {
		t.Errorf("%d wrong ones, %d right ones", wrong, right)
	}
}

// P6.1, P6.11
func TestWhereOfRandomOnes(t *testing.T) {
	wrong := 0
	for seed := range 6000 {
		m := newMaker(seed)
		sp := m.spec()
		scope := []int{0, 1, 2, 0}
		e := m.expr(scope, 3+m.IntN(25))
		if path, found := level.Where(sp, e, scope); found {
			t.Fatalf("%d: %v in %s", seed, path, cut(shown(e)))
		}
		for range 1 + m.IntN(3) {
			e = m.spoiled(e)
		}
		path, found := level.Where(sp, e, scope)
		want, wanted := refWhere(sp, -1, e, scope, 0)
		if found != wanted || !slices.Equal(path, want) {
			t.Fatalf("%d: %v, %v, want %v, %v: %s", seed, path, found, want, wanted, cut(shown(e)))
		}
		if !found {
			continue
		}
		wrong++
		next, again := level.Where(sp, replaced(e, path, num(1)), scope)
		if again && slices.Compare(next, path) <= 0 && !isOperatorPlace(sp, e, path) {
			t.Fatalf("%d: %v behind %v: %s", seed, next, path, cut(shown(e)))
		}
	}
	if wrong < 3000 {
		t.Errorf("%d wrong ones", wrong)
	}
}

// isOperatorPlace reports whether an operator has to stand at a path: a literal is none.
func isOperatorPlace(sp api.Spec, e api.Expr, path []int) bool {
	if len(path) == 0 {
		return false
	}
	last := len(path) - 1
	up := at(e, path[:last])
	return up.Kind == api.ECall && sp.Defs[up.N].Params[path[last]] > 0
}

// P6.1, P6.11
func TestShape(t *testing.T) {
	sp := shapes()
	bad := shapes()
	bad.Vars = nil
	for _, l := range []struct {
		sp    api.Spec
		e     api.Expr
		bound int
		want  api.Errno
	}{
		{sp, x, 0, api.OK}, {sp, b(39), 40, api.OK}, {sp, b(40), 40, api.ErrExpr}, {sp, b(0), 0, api.ErrExpr},
		{sp, x, -1, api.ErrArg}, {sp, x, 41, api.ErrArg}, {sp, api.Expr{}, math.MaxInt, api.ErrArg}, {sp, api.Expr{}, math.MinInt, api.ErrArg}, {sp, api.Expr{}, 0, api.ErrExpr},
		{bad, x, -1, api.ErrSpec}, {bad, api.Expr{}, 0, api.ErrSpec},
		{sp, conj(3000), 0, api.OK}, {sp, conj(3001), 0, api.ErrExpr}, {sp, deep(100), 0, api.OK}, {sp, deep(101), 0, api.ErrExpr},
		{sp, oper(0), 0, api.ErrExpr}, {sp, lambda(1, x), 0, api.ErrExpr}, {sp, apply(0), 1, api.ErrExpr},
		{sp, call(defT(8), lambda(8, x)), 32, api.OK}, {sp, call(defT(8), lambda(9, x)), 0, api.ErrExpr}, {sp, call(defT(8), lambda(8, x)), 33, api.ErrExpr},
	} {
		if err := level.Shape(l.sp, l.e, l.bound); err != l.want {
			t.Errorf("%s in %d: error %d, want %d", cut(shown(l.e)), l.bound, err, l.want)
		}
	}
}
