package level_test

import (
	"fmt"
	"slices"
	"testing"

	"foregone/api"
	"foregone/level"
)

// wantInline compares what Inline returns.
func wantInline(t *testing.T, sp api.Spec, e api.Expr, bound int, want api.Expr, wanted api.Errno) {
	t.Helper()
	got, err := level.Inline(sp, e, bound)
	if err != wanted || !level.Same(got, want) {
		t.Errorf("%s: %s, error %d, want %s, %d", cut(shown(e)), cut(shown(got)), err, cut(shown(want)), wanted)
	}
}

// P6.4
func TestInline(t *testing.T) {
	sp := examples()
	sp.Defs = append(sp.Defs,
		def("K", c),                                                                // 4
		with(def("First", b(0)), 0, 0),                                             // 5
		with(def("Twice", plus(b(0), b(0))), 0),                                    // 6
		with(def("Hand", call(dUse, handed(0))), 1),                                // 7
		with(def("Again", call(7, handed(0))), 1),                                  // 8
		with(def("Under", let(y, apply(1, plus(b(0), b(2))))), 0, 1),               // 9
		with(def("Both", ex(api.ETuple, apply(0, c, x), apply(0, x, c))), 2),       // 10
		with(def("Bind", all(2, b(0), b(1), ex(api.ETuple, b(0), b(1), b(2)))), 0), // 11
		with(def("Wrap", call(dUse, lambda(1, plus(b(0), b(1))))), 0))              // 12
	for _, l := range []struct {
		e     api.Expr
		bound int
		want  api.Expr
	}{
		{call(dUse, lambda(1, plus(b(0), c))), 0, plus(x, c)},
		{call(4), 0, c}, {call(dInc, x), 0, plus(x, num(1))}, {plus(call(dInc, call(dInc, c)), y), 0, plus(plus(plus(c, num(1)), num(1)), y)},
		{call(5, x, y), 0, x}, {call(6, call(dInc, y)), 0, plus(plus(y, num(1)), plus(y, num(1)))}, {call(dPrime, x), 0, eq(prime(x), x)},
		{call(dUse, oper(dInc)), 0, plus(x, num(1))},
		// operators that are handed over, and again
		{call(7, oper(dInc)), 0, plus(x, num(1))}, {call(8, lambda(1, plus(b(0), c))), 0, plus(x, c)}, {call(8, oper(dEn)), 0, enabled(eq(prime(x), x))},
		{call(8, lambda(1, call(8, lambda(1, plus(b(0), b(1)))))), 0, plus(x, x)},
		{call(10, lambda(2, eq(b(1), b(0)))), 0, ex(api.ETuple, eq(x, c), eq(c, x))}, {call(10, oper(5)), 0, ex(api.ETuple, c, x)},
		// variables of the scope, and of what is bound in e and in bodies
		{call(dInc, b(1)), 2, plus(b(1), num(1))}, {let(b(1), call(6, b(2))), 2, let(b(1), plus(b(2), b(2)))},
		{call(9, b(0), lambda(1, plus(b(1), b(0)))), 1, let(y, plus(plus(b(0), b(1)), b(0)))},
		{call(9, let(b(0), b(1)), oper(6)), 1, let(y, plus(plus(let(b(0), b(2)), b(1)), plus(let(b(0), b(2)), b(1))))},
		{call(11, b(2)), 3, all(2, b(2), b(3), ex(api.ETuple, b(2), b(3), b(4)))},
		{call(11, call(11, b(0))), 1, all(2, all(2, b(0), b(1), ex(api.ETuple, b(0), b(1), b(2))), b(1), ex(api.ETuple, all(2, b(0), b(3), ex(api.ETuple, b(0), b(3), b(4))), b(1), b(2)))},
		{call(12, y), 0, plus(y, x)}, {all(1, c, call(12, b(1))), 1, all(1, c, plus(b(1), x))}, {call(dUse, lambda(1, let(b(0), call(12, plus(b(0), b(1)))))), 0, let(x, plus(plus(x, b(0)), x))},
		{x, 0, x}, {exs(api.ERecord, "a b", call(4), x), 0, exs(api.ERecord, "a b", c, x)},
	} {
		wantInline(t, sp, l.e, l.bound, l.want, api.OK)
	}
}

// P6.4
func TestInlineRecursive(t *testing.T) {
	sp := small(
		rec(with(def("R", call(0, b(0))), 0)),
		with(def("First", b(0)), 0, 0),
		with(def("Use", apply(0, x)), 1),
		with(def("Skip", c), 1),
		rec(def("NotReally", c)))
	wantInline(t, sp, call(0, x), 0, api.Expr{}, api.ErrRec)
	wantInline(t, sp, call(4), 0, api.Expr{}, api.ErrRec)
	wantInline(t, sp, call(1, x, call(0, x)), 0, x, api.OK) // an argument that does not occur
	wantInline(t, sp, call(1, call(0, x), x), 0, api.Expr{}, api.ErrRec)
	wantInline(t, sp, call(2, oper(0)), 0, api.Expr{}, api.ErrRec)
	wantInline(t, sp, call(2, lambda(1, b(0))), 0, x, api.OK)
	wantInline(t, sp, call(2, lambda(1, call(0, b(0)))), 0, api.Expr{}, api.ErrRec)
	wantInline(t, sp, call(3, oper(0)), 0, c, api.OK)
	wantInline(t, sp, call(3, lambda(1, call(0, b(0)))), 0, c, api.OK)
	wantInline(t, sp, ex(api.EAnd, x, prime(prime(call(0, x)))), 0, api.Expr{}, api.ErrRec)
}

// P6.4: 3000 nodes and calls, and one more; what comes first counts.
func TestInlineNodes(t *testing.T) {
	sp := small(
		def("K", c),
		with(def("Ten", conj10(b(0))), 0),
		with(def("Use", apply(0, x)), 1),
		rec(def("R", c)),
		with(def("Id", b(0)), 0),
		with(def("First", b(0)), 0, 0),
		def("Most", conj(2000)))
	tuple := func(n int, l ...api.Expr) api.Expr { // 2002 nodes and calls, and so many elements more
		return ex(api.ETuple, slices.Concat([]api.Expr{call(6)}, slices.Repeat([]api.Expr{x}, n), l)...)
	}
	for _, l := range []struct {
		e    api.Expr
		used int // nodes and calls of what is added to the elements
	}{
		{call(0), 2}, {call(1, x), 12}, {call(1, call(0)), 22}, {call(2, lambda(1, b(0))), 3}, {call(2, oper(4)), 3}, {call(2, lambda(1, call(1, b(0)))), 14}, {call(4, x), 2}, {call(4, call(4, x)), 3}, {call(5, x, call(1, x)), 2}, {call(2, lambda(1, call(4, b(0)))), 4},
	} {
		most := 998 - l.used
		if _, err := level.Inline(sp, tuple(most, l.e), 0); err != api.OK {
			t.Errorf("%s: error %d", shown(l.e), err)
		}
		wantInline(t, sp, tuple(most+1, l.e), 0, api.Expr{}, api.ErrLimit)
	}
	r := call(3)
	wantInline(t, sp, tuple(990, r), 0, api.Expr{}, api.ErrRec)
	wantInline(t, sp, tuple(980, call(1, x), call(1, x), r), 0, api.Expr{}, api.ErrLimit)
	wantInline(t, sp, tuple(980, r, call(1, x), call(1, x)), 0, api.Expr{}, api.ErrRec)
	wantInline(t, sp, tuple(980, call(1, r), call(1, x)), 0, api.Expr{}, api.ErrRec)
	// Ten to the power of what is in each other.
	wantInline(t, sp, call(1, call(1, call(1, call(1, x)))), 0, api.Expr{}, api.ErrLimit)
	wantInline(t, sp, call(1, call(1, call(1, call(1, r)))), 0, api.Expr{}, api.ErrRec)
}

// conj10 returns a conjunction of ten times the same.
func conj10(e api.Expr) api.Expr { return ex(api.EAnd, slices.Repeat([]api.Expr{e}, 10)...) }

// chain returns a specification in which each definition calls the one ahead, with an operator that it hands on; the first one applies it.
func chain(length int) api.Spec {
	sp := small(with(def("D0", apply(0, c)), 1))
	for i := 1; i < length; i++ {
		sp.Defs = append(sp.Defs, with(def(fmt.Sprint("D", i), call(i-1, handed(0))), 1))
	}
	return sp
}

// P6.4: calls within 100 bodies, and within fewer.
func TestInlineBodies(t *testing.T) {
	sp := small(def("D0", c))
	for i := 1; i < 100; i++ {
		sp.Defs = append(sp.Defs, def(fmt.Sprint("D", i), call(i-1)))
	}
	wantInline(t, sp, call(99), 0, c, api.OK)
	// The operator is applied within as many bodies as there are definitions.
	wantInline(t, chain(99), call(98, lambda(1, b(0))), 0, c, api.OK)
	wantInline(t, chain(100), call(99, lambda(1, b(0))), 0, api.Expr{}, api.ErrLimit)
	wantInline(t, chain(100), call(98, lambda(1, b(0))), 0, c, api.OK)
	// The body of an operator is one, too.
	wantInline(t, chain(99), call(97, lambda(1, call(0, lambda(1, b(1))))), 0, api.Expr{}, api.ErrLimit)
	wantInline(t, chain(99), call(96, lambda(1, call(0, lambda(1, b(1))))), 0, c, api.OK)
	// An argument stands within the bodies in which it is written.
	deep := chain(97)
	deep.Defs = append(deep.Defs, with(def("Id", b(0)), 0))
	wantInline(t, deep, call(96, lambda(1, call(97, call(97, b(0))))), 0, c, api.OK)
	e := call(97, x)
	for range 90 {
		e = call(97, e)
	}
	wantInline(t, deep, e, 0, x, api.OK)
	// A recursive definition comes first, since bodies are looked at in the end.
	rest := chain(99)
	rest.Defs = append(rest.Defs, rec(def("R", c)))
	wantInline(t, rest, ex(api.ETuple, call(98, lambda(1, call(0, lambda(1, b(1))))), call(99)), 0, api.Expr{}, api.ErrRec)
}

// P6.4: the depth and the scopes of the result.
func TestInlineDepth(t *testing.T) {
	sp := small(
		with(def("Deep", ex(api.ENot, ex(api.ENot, b(0)))), 0),
		with(def("Scope", let(c, let(c, b(0)))), 0),
		rec(def("R", c)))
	not := func(n int, e api.Expr) api.Expr {
		for range n {
			e = ex(api.ENot, e)
		}
		return e
	}
	wantInline(t, sp, not(97, call(0, x)), 0, not(99, x), api.OK)
	wantInline(t, sp, not(98, call(0, x)), 0, api.Expr{}, api.ErrLimit)
	wantInline(t, sp, ex(api.EAnd, not(97, call(0, x)), call(2)), 0, api.Expr{}, api.ErrRec)
	two := func(e api.Expr) api.Expr { return let(c, let(c, e)) }
	if _, err := level.Inline(sp, binders(38, call(1, x)), 0); err != api.OK {
		t.Errorf("error %d", err)
	}
	wantInline(t, sp, binders(39, call(1, x)), 0, api.Expr{}, api.ErrLimit)
	wantInline(t, sp, call(1, x), 38, two(x), api.OK)
	wantInline(t, sp, call(1, x), 39, api.Expr{}, api.ErrLimit)
	wantInline(t, sp, call(1, call(1, b(0))), 36, two(two(b(0))), api.OK)
	wantInline(t, sp, call(1, call(1, b(0))), 37, api.Expr{}, api.ErrLimit)
}

// P6.4: an expression that would become as large as anything ends soon.
func TestInlineExplosion(t *testing.T) {
	sp := small(with(def("D0", plus(b(0), b(0))), 0))
	for i := 1; i < 100; i++ {
		sp.Defs = append(sp.Defs, with(def(fmt.Sprint("D", i), call(i-1, call(i-1, b(0)))), 0))
	}
	wantInline(t, sp, call(99, x), 0, api.Expr{}, api.ErrLimit)
	wantInline(t, sp, call(1, x), 0, plus(plus(x, x), plus(x, x)), api.OK)
}
