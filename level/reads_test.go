package level_test

import (
	"fmt"
	"math"
	"slices"
	"strings"
	"testing"

	"foregone/api"
	"foregone/level"
)

// usesOf writes what is read as a text of the form "now 0 then 1 consts 0 defs 0 1".
func usesOf(u api.Uses) string {
	var parts []string
	for _, p := range []struct {
		name string
		l    []int
	}{{"now", u.Now}, {"then", u.Then}, {"consts", u.Consts}, {"defs", u.Defs}} {
		if len(p.l) > 0 {
			parts = append(parts, p.name+" "+strings.Trim(fmt.Sprint(p.l), "[]"))
		}
	}
	return strings.Join(parts, " ")
}

// P6.3
func TestReads(t *testing.T) {
	sp := examples()
	sp.Consts = append(sp.Consts, api.Const{Name: "d"})
	d := exn(api.EConst, 1)
	sp.Defs = append(sp.Defs,
		rec(with(def("R", ex(api.EIf, c, call(5, b(0)), x)), 0)),          // 4
		rec(with(def("S", ex(api.EIf, prime(y), call(4, b(0)), d)), 0)),   // 5
		rec(with(def("T", prime(call(7, b(0)))), 0)),                      // 6
		rec(with(def("U", ex(api.EIf, b(0), call(6, b(0)), x)), 0)),       // 7
		with(def("V", ex(api.EAnd, call(0, b(0)), prime(call(5, c)))), 0)) // 8
	for _, l := range []struct {
		e    api.Expr
		want string
	}{
		{eq(prime(x), plus(x, c)), "now 0 then 0 consts 0"},
		{enabled(eq(prime(x), c)), "consts 0"},
		{unchanged(x), "now 0 then 0"},
		{num(1), ""}, {x, "now 0"}, {plus(y, x), "now 0 1"}, {plus(d, c), "consts 0 1"}, {prime(x), "then 0"},
		{prime(plus(x, prime(y))), "then 0"}, {prime(prime(x)), ""}, {prime(unchanged(x)), "then 0"}, {unchanged(prime(x)), ""}, {unchanged(eq(x, prime(y))), "now 0 then 0"},
		{prime(enabled(eq(x, prime(y)))), "then 0"}, {enabled(unchanged(x)), "now 0"}, {enabled(enabled(x)), "now 0"}, {enabled(then(x, prime(y))), "now 0"},
		{then(x, y), "now 0"}, {then(prime(x), prime(y)), "then 1"}, {then(eq(x, prime(y)), eq(y, prime(x))), "now 0 then 0"}, {then(unchanged(x), unchanged(y)), "now 0 then 1"},
		{prime(then(eq(x, prime(y)), c)), "then 0 consts 0"}, {prime(then(c, unchanged(x))), "consts 0"},
		{prime(d), "consts 1"}, {unchanged(then(d, enabled(prime(c)))), "consts 0 1"},
		{all(2, x, prime(y), c), "now 0 then 1 consts 0"}, {let(x, c), "now 0 consts 0"}, {exs(api.ERecord, "a b", y, prime(y)), "now 1 then 1"},
		{call(dInc, x), "now 0 defs 0"}, {call(dEn, y), "now 1 defs 2"}, {call(dPrime, c), "consts 0 defs 1"}, {prime(call(dInc, x)), "then 0 defs 0"},
		{call(dUse, oper(dInc)), "now 0 defs 0 3"}, {call(dUse, lambda(1, eq(prime(y), b(0)))), "now 0 then 1 defs 3"}, {prime(call(dUse, oper(dPrime))), "then 0 defs 1 3"},
		{call(4, c), "now 0 then 1 consts 0 1 defs 4 5"}, {call(5, num(1)), "now 0 then 1 consts 0 1 defs 4 5"}, {prime(call(4, num(1))), "then 0 consts 0 1 defs 4 5"},
		{call(6, num(1)), "then 0 defs 6 7"}, {call(7, num(1)), "now 0 then 0 defs 6 7"}, {call(8, y), "now 1 then 0 consts 0 1 defs 0 4 5 8"},
		{enabled(call(5, y)), "now 0 1 consts 0 1 defs 4 5"},
	} {
		u, err := level.Reads(sp, l.e, 0)
		if got := usesOf(u); got != l.want || err != api.OK {
			t.Errorf("%s: %s, error %d, want %s", shown(l.e), got, err, l.want)
		}
	}
}

// P6.3
func TestFree(t *testing.T) {
	sp := examples()
	for _, l := range []struct {
		e     api.Expr
		bound int
		want  []int
	}{
		{x, 0, nil}, {x, 4, nil}, {b(2), 4, []int{2}}, {plus(b(3), plus(b(1), b(3))), 4, []int{1, 3}},
		{let(b(0), b(1)), 1, []int{0}}, {let(c, b(1)), 1, nil}, {let(c, plus(b(1), b(0))), 1, []int{0}}, {let(c, b(1)), 2, []int{1}},
		{all(2, b(1), b(2), plus(b(3), b(0))), 2, []int{0, 1}}, {call(dUse, lambda(1, plus(b(3), b(2)))), 3, []int{2}},
		{except(b(0), b(1), b(2)), 2, []int{0, 1}}, {prime(enabled(b(39))), 40, []int{39}},
	} {
		got, err := level.Free(sp, l.e, l.bound)
		if !slices.Equal(got, l.want) || err != api.OK {
			t.Errorf("%s in %d: %v, error %d, want %v", shown(l.e), l.bound, got, err, l.want)
		}
	}
}

// P6.3
func TestSubst(t *testing.T) {
	sp := examples()
	for _, l := range []struct {
		e           api.Expr
		bound, from int
		l           []api.Expr
		want        api.Expr
	}{
		{plus(b(0), b(1)), 2, 0, []api.Expr{c}, plus(c, b(0))},
		{plus(b(0), b(1)), 2, 1, []api.Expr{plus(b(0), x)}, plus(b(0), plus(b(0), x))},
		{plus(b(0), b(1)), 2, 0, []api.Expr{x, y}, plus(x, y)},
		{plus(b(0), b(1)), 2, 0, nil, plus(b(0), b(1))}, {plus(b(0), b(1)), 2, 1, nil, plus(b(0), b(1))}, {plus(b(0), b(1)), 2, 2, nil, plus(b(0), b(1))},
		{ex(api.ETuple, b(0), b(1), b(2), b(3)), 4, 1, []api.Expr{x, b(0)}, ex(api.ETuple, b(0), x, b(0), b(1))},
		{c, 1, 0, []api.Expr{x}, c}, {b(0), 1, 0, []api.Expr{b0let(0)}, b0let(0)},
		// what is bound within e, and within what is put in
		{let(b(1), eq(b(0), b(2))), 2, 0, []api.Expr{c}, let(b(0), eq(c, b(1)))},
		{let(b(1), eq(b(0), b(2))), 2, 1, []api.Expr{let(x, b(1))}, let(let(x, b(1)), eq(b(0), b(1)))},
		{let(c, eq(b(0), b(1))), 1, 0, []api.Expr{b0let(0)}, let(c, eq(b0let(1), b(0)))},
		{ex(api.ETuple, b(0), b(1)), 2, 0, []api.Expr{b0let(0)}, ex(api.ETuple, b0let(1), b(0))},
		{all(2, c, c, ex(api.ETuple, b(1), b(2), b(3), b(4))), 3, 1, []api.Expr{ex(api.EChoose, b(0), eq(b(0), b(1)))},
			all(2, c, c, ex(api.ETuple, ex(api.EChoose, b(0), eq(b(0), b(4))), b(1), b(2), b(3)))},
		{call(dUse, lambda(1, eq(b(0), b(1)))), 1, 0, []api.Expr{call(dUse, lambda(1, b(0)))}, call(dUse, lambda(1, eq(call(dUse, lambda(1, b(1))), b(0))))},
		{except(b(0), b(1), plus(b(0), b(2))), 2, 0, []api.Expr{x}, except(x, b(0), plus(x, b(1)))},
		{prime(b(0)), 1, 0, []api.Expr{prime(x)}, prime(prime(x))}, // levels are not looked at
		{b(39), 40, 39, []api.Expr{b(38)}, b(38)},
		{exs(api.ERecord, "a b", b(0), b(1)), 2, 0, []api.Expr{num(1), num(2)}, exs(api.ERecord, "a b", num(1), num(2))},
	} {
		got, err := level.Subst(sp, l.e, l.bound, l.from, l.l)
		if !level.Same(got, l.want) || err != api.OK {
			t.Errorf("%s: %s, error %d, want %s", shown(l.e), shown(got), err, shown(l.want))
		}
	}
}

// b0let returns LET v == c IN v where so many variables are in scope.
func b0let(scope int) api.Expr { return let(c, b(scope)) }

// P6.3
func TestSubstErrors(t *testing.T) {
	sp := examples()
	for _, l := range []struct {
		e           api.Expr
		bound, from int
		l           []api.Expr
		want        api.Errno
	}{
		{x, 2, -1, nil, api.ErrArg}, {x, 2, 3, nil, api.ErrArg}, {x, 2, 2, nil, api.OK}, {x, 2, 2, []api.Expr{x}, api.ErrArg}, {x, 2, 0, []api.Expr{x, x, x}, api.ErrArg},
		{x, 2, math.MaxInt, []api.Expr{x}, api.ErrArg}, {x, 2, math.MinInt, []api.Expr{x}, api.ErrArg},
		{x, 2, 3, []api.Expr{{}}, api.ErrArg}, {b(2), 2, 3, nil, api.ErrExpr},
		{x, 2, 1, []api.Expr{b(0)}, api.OK}, {x, 2, 1, []api.Expr{b(1)}, api.ErrExpr}, {x, 2, 0, []api.Expr{b(0)}, api.ErrExpr}, {x, 2, 0, []api.Expr{x, b(0)}, api.ErrExpr},
		{x, 1, 0, []api.Expr{{}}, api.ErrExpr}, {x, 1, 0, []api.Expr{oper(0)}, api.ErrExpr}, {x, 1, 0, []api.Expr{lambda(1, x)}, api.ErrExpr},
		{x, 40, 40, nil, api.OK}, {x, 1, 0, []api.Expr{binders(41, x)}, api.ErrExpr}, {x, 40, 40, []api.Expr{x}, api.ErrArg},
		// the number of nodes
		{b(0), 1, 0, []api.Expr{conj(3000)}, api.OK}, {b(0), 1, 0, []api.Expr{conj(3001)}, api.ErrLimit}, {x, 1, 0, []api.Expr{conj(5000)}, api.OK},
		{ex(api.ETuple, b(0), b(0)), 1, 0, []api.Expr{conj(1499)}, api.OK}, {ex(api.ETuple, b(0), b(0), x), 1, 0, []api.Expr{conj(1499)}, api.OK}, {ex(api.ETuple, x, b(0), b(0), x), 1, 0, []api.Expr{conj(1499)}, api.ErrLimit},
		{ex(api.ETuple, b(0), x, x, x), 1, 0, []api.Expr{conj(2996)}, api.OK}, {ex(api.ETuple, b(0), x, x, x, b(0)), 1, 0, []api.Expr{conj(2996)}, api.ErrLimit},
		// the depth
		{ex(api.ENot, b(0)), 1, 0, []api.Expr{deep(99)}, api.OK}, {ex(api.ENot, b(0)), 1, 0, []api.Expr{deep(100)}, api.ErrLimit}, {x, 1, 0, []api.Expr{deep(200)}, api.OK}, {b(0), 1, 0, []api.Expr{deep(101)}, api.ErrLimit},
		// the scopes
		{binders(20, b(0)), 1, 0, []api.Expr{binders(20, x)}, api.OK}, {binders(20, b(0)), 1, 0, []api.Expr{binders(21, x)}, api.ErrLimit},
		{binders(20, b(0)), 2, 0, []api.Expr{binders(20, x)}, api.ErrLimit}, {binders(20, b(0)), 2, 0, []api.Expr{binders(20, x), x}, api.OK},
		{binders(20, x), 1, 0, []api.Expr{binders(40, x)}, api.OK}, {b(0), 40, 0, []api.Expr{let(c, x)}, api.OK}, {b(0), 40, 0, []api.Expr{binders(2, x)}, api.ErrLimit},
	} {
		got, err := level.Subst(sp, l.e, l.bound, l.from, l.l)
		if err != l.want || err != api.OK && !isZero(got) {
			t.Errorf("%s, %d, %d, %d expressions: error %d, want %d", cut(shown(l.e)), l.bound, l.from, len(l.l), err, l.want)
		}
	}
}

// P6.3
func TestSize(t *testing.T) {
	bad := api.Expr{Kind: -7, L: []api.Expr{{}, {L: []api.Expr{{}}}}}
	long := deep(60000)
	for _, l := range []struct {
		e            api.Expr
		nodes, depth int
	}{
		{api.Expr{}, 1, 1}, {x, 1, 1}, {plus(x, y), 3, 2}, {plus(x, plus(x, y)), 5, 3}, {conj(4000), 4000, 2}, {deep(200), 200, 200}, {bad, 4, 3},
		{call(dUse, lambda(1, b(0))), 3, 3}, {ex(api.EAnd), 1, 1}, {long, 60000, 60000},
	} {
		if nodes, depth := level.Size(l.e); nodes != l.nodes || depth != l.depth {
			t.Errorf("%s: %d, %d, want %d, %d", cut(shown(bare(l.e))), nodes, depth, l.nodes, l.depth)
		}
	}
}

// bare returns a node without its elements.
func bare(e api.Expr) api.Expr {
	e.L = nil
	return e
}

// P6.3
func TestSame(t *testing.T) {
	value := api.Val{Kind: api.VFun, N: 1, I: api.Int{Neg: true, D: []int{1, 2}}, S: "s", L: []api.Val{{Kind: 1}, {L: []api.Val{{N: 3}}}}, M: []api.Val{{S: "m"}}}
	e := func() api.Expr {
		return api.Expr{Kind: 3, N: 4, S: []string{"a", "b"}, V: value, L: []api.Expr{{Kind: 1}, {L: []api.Expr{{N: 2}}}}}
	}
	if !level.Same(e(), e()) || !level.Same(api.Expr{}, api.Expr{S: []string{}, L: []api.Expr{}, V: api.Val{L: []api.Val{}, M: []api.Val{}, I: api.Int{D: []int{}}}}) {
		t.Error("not the same")
	}
	for i, change := range []func(e *api.Expr){
		func(e *api.Expr) { e.Kind++ }, func(e *api.Expr) { e.N++ }, func(e *api.Expr) { e.S = e.S[:1] }, func(e *api.Expr) { e.S = []string{"a", "c"} }, func(e *api.Expr) { e.S = nil },
		func(e *api.Expr) { e.L = e.L[:1] }, func(e *api.Expr) { e.L[0].Kind = 2 }, func(e *api.Expr) { e.L[1].L[0].N = 1 }, func(e *api.Expr) { e.L[1].L = nil }, func(e *api.Expr) { e.L[0].V.S = "x" },
		func(e *api.Expr) { e.V.Kind++ }, func(e *api.Expr) { e.V.N++ }, func(e *api.Expr) { e.V.S = "" }, func(e *api.Expr) { e.V.I.Neg = false }, func(e *api.Expr) { e.V.I.D = []int{1} }, func(e *api.Expr) { e.V.I.D = []int{1, 3} },
		func(e *api.Expr) { e.V.L = e.V.L[:1] }, func(e *api.Expr) { e.V.L = []api.Val{{Kind: 1}, {L: []api.Val{{N: 4}}}} }, func(e *api.Expr) { e.V.M = nil }, func(e *api.Expr) { e.V.M = []api.Val{{S: "n"}} },
		func(e *api.Expr) { e.V.L, e.V.M = e.V.M, e.V.L },
	} {
		f := e()
		change(&f)
		if level.Same(e(), f) || level.Same(f, e()) {
			t.Errorf("change %d: the same", i)
		}
	}
}
