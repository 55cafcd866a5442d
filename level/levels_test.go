package level_test

import (
	"slices"
	"testing"

	"foregone/api"
	"foregone/level"
)

// wantDefs compares the levels of definitions.
func wantDefs(t *testing.T, sp api.Spec, want ...api.Level) {
	t.Helper()
	got, i, m, err := level.Defs(sp)
	equal := slices.EqualFunc(got, want, func(a, b api.Level) bool { return a.Base == b.Base && slices.Equal(a.Most, b.Most) })
	if !equal || i != 0 || err != api.OK || !same(m, api.Misplace{}) {
		t.Errorf("%s: %v, %d, %v, error %d, want %v", specShown(sp), got, i, m, err, want)
	}
}

func lv(base int, most ...int) api.Level { return api.Level{Base: base, Most: most} }

// P6.2
func TestExamples(t *testing.T) {
	sp := examples()
	wantDefs(t, sp, lv(0, 2), lv(2, 0), lv(1, 1), lv(1, 2))
	wantOf(t, sp, call(dInc, prime(x)), 0, 2)
	wantOf(t, sp, call(dPrime, c), 0, 2)
	wantOf(t, sp, call(dEn, x), 0, 1)
	wantMisplaced(t, sp, call(dPrime, x), 0, 1, 0, 0)
	wantMisplaced(t, sp, call(dEn, prime(x)), 0, 2, 1, 0)
	wantMisplaced(t, sp, prime(prime(x)), 0, 2, 1, 0)
	wantMisplaced(t, sp, let(x, prime(b(0))), 0, 1, 0, 1, 0)
	wantOf(t, sp, let(c, prime(b(0))), 0, 2)
	wantOf(t, sp, call(dUse, lambda(1, plus(b(0), x))), 0, 1)
	wantMisplaced(t, sp, call(dUse, oper(dPrime)), 0, 2, 0, 0)
	wantOf(t, sp, call(dUse, oper(dInc)), 0, 1)
}

// P6.2: the level of a node of each kind, with constants, state expressions and actions as its elements.
func TestLevels(t *testing.T) {
	sp := shapes()
	eachNode(func(e api.Expr, given int) {
		if e.Kind == api.EBoundOp { // which stands in no scope of values
			return
		}
		e = filled(e, given)
		for at := range e.L {
			for lv, f := range []api.Expr{c, x, prime(x)} {
				for j := range e.L {
					e.L[j] = c
				}
				e.L[at] = f
				want := lv
				switch e.Kind {
				case api.EEnabled:
					want = 1
				case api.EPrime, api.EUnchanged:
					if want = 2; lv == 2 {
						wantMisplaced(t, sp, e, 0, 2, 1, 0)
						continue
					}
				case api.ECompose:
					want = 2
				}
				wantOf(t, sp, e, 0, want)
			}
		}
	})
	wantOf(t, sp, x, 0, 1)
	wantOf(t, sp, c, 0, 0)
	wantOf(t, sp, num(1), 0, 0)
	wantOf(t, sp, b(1), 2, 0)
	wantOf(t, sp, ex(api.EAnd), 0, 0)
	wantOf(t, sp, exn(api.EClass, api.ClNat), 0, 0)
	wantOf(t, sp, prime(c), 0, 2)
	wantOf(t, sp, unchanged(c), 0, 2)
	wantOf(t, sp, enabled(c), 0, 1)
	wantOf(t, sp, then(c, c), 0, 2)
}

// P6.2: what is bound to elements of sets is constant.
func TestBoundToElements(t *testing.T) {
	sp := small()
	for _, kind := range []int{api.EAll, api.EExists, api.EMap, api.EFun} {
		wantOf(t, sp, exn(kind, 1, c, prime(b(0))), 0, 2)
		wantOf(t, sp, exn(kind, 1, x, prime(b(0))), 0, 2)
		wantOf(t, sp, exn(kind, 1, prime(x), unchanged(b(0))), 0, 2)
		wantOf(t, sp, exn(kind, 1, x, b(0)), 0, 1)
		wantOf(t, sp, exn(kind, 2, c, c, eq(b(0), b(1))), 0, 0)
	}
	for _, kind := range []int{api.EChoose, api.EFilter} {
		wantOf(t, sp, ex(kind, x, enabled(eq(prime(x), b(0)))), 0, 1)
		wantOf(t, sp, ex(kind, c, b(0)), 0, 0)
	}
}

// P6.2: what is bound by ELet and EExcept.
func TestBoundByLet(t *testing.T) {
	sp := small()
	wantOf(t, sp, let(prime(x), b(0)), 0, 2)
	wantOf(t, sp, let(x, c), 0, 1)
	wantOf(t, sp, let(prime(x), eq(b(0), c)), 0, 2)
	wantOf(t, sp, let(x, enabled(b(0))), 0, 1)
	wantMisplaced(t, sp, let(prime(x), enabled(b(0))), 0, 2, 1, 1, 0)
	wantMisplaced(t, sp, let(x, unchanged(b(0))), 0, 1, 0, 1, 0)
	wantOf(t, sp, let(x, then(b(0), c)), 0, 2)
	wantMisplaced(t, sp, let(prime(x), then(b(0), c)), 0, 2, 1, 1, 0)
	wantMisplaced(t, sp, let(x, then(c, b(0))), 0, 1, 0, 1, 1)
	wantOf(t, sp, let(c, then(c, b(0))), 0, 2)
	// An element of EPrime that stands around the binder is no matter of what is bound.
	wantOf(t, sp, prime(let(x, b(0))), 0, 2)
	wantOf(t, sp, unchanged(let(x, plus(b(0), y))), 0, 2)
	wantOf(t, sp, enabled(let(prime(x), b(0))), 0, 1)
	wantOf(t, sp, then(let(prime(x), b(0)), let(prime(x), b(0))), 0, 2)
	wantMisplaced(t, sp, prime(let(prime(x), c)), 0, 2, 1, 0)
	// The value of one is in another one.
	wantMisplaced(t, sp, let(x, let(b(0), prime(b(1)))), 0, 1, 0, 1, 1, 0)
	wantMisplaced(t, sp, let(x, let(plus(c, b(0)), let(b(1), unchanged(b(2))))), 0, 1, 0, 1, 1, 1, 0)
	wantOf(t, sp, let(x, let(c, prime(b(1)))), 0, 2)
	wantOf(t, sp, let(let(x, b(0)), b(0)), 0, 1)
	wantMisplaced(t, sp, let(let(x, b(0)), prime(b(0))), 0, 1, 0, 1, 0)
	wantMisplaced(t, sp, let(let(x, prime(b(0))), c), 0, 1, 0, 0, 1, 0)
	// The old value has the level of the function and of the argument.
	wantMisplaced(t, sp, except(x, c, prime(b(0))), 0, 1, 0, 2, 0)
	wantMisplaced(t, sp, except(c, x, prime(b(0))), 0, 1, 0, 2, 0)
	wantOf(t, sp, except(c, c, prime(b(0))), 0, 2)
	wantOf(t, sp, except(x, prime(x), b(0)), 0, 2)
	wantMisplaced(t, sp, except(x, prime(x), enabled(b(0))), 0, 2, 1, 2, 0)
	wantMisplaced(t, sp, except(c, c, let(x, except(b(1), c, unchanged(plus(b(0), b(2)))))), 0, 1, 0, 2, 1, 2, 0, 1)
	wantOf(t, sp, except(c, c, let(x, except(b(1), c, unchanged(b(0))))), 0, 2)
}

// P6.2: EPrime, EUnchanged, EEnabled and ECompose within each other.
func TestWithinEachOther(t *testing.T) {
	sp := small()
	for _, f := range []func(api.Expr) api.Expr{prime, unchanged} {
		wantMisplaced(t, sp, f(prime(x)), 0, 2, 1, 0)
		wantMisplaced(t, sp, f(unchanged(c)), 0, 2, 1, 0)
		wantMisplaced(t, sp, f(then(c, c)), 0, 2, 1, 0)
		wantOf(t, sp, f(enabled(prime(x))), 0, 2)
		wantMisplaced(t, sp, f(f(f(x))), 0, 2, 1, 0)
		wantMisplaced(t, sp, f(ex(api.ENot, f(x))), 0, 2, 1, 0)
		wantOf(t, sp, then(f(x), f(x)), 0, 2)
		wantOf(t, sp, enabled(f(enabled(f(x)))), 0, 1)
		wantMisplaced(t, sp, then(c, f(f(x))), 0, 2, 1, 1, 0)
	}
	wantOf(t, sp, then(then(prime(x), c), then(c, enabled(prime(x)))), 0, 2)
	wantMisplaced(t, sp, let(x, enabled(eq(b(0), prime(b(0))))), 0, 1, 0, 1, 0, 1, 0)
	wantMisplaced(t, sp, let(prime(x), enabled(then(c, b(0)))), 0, 2, 0, 1, 0, 1)
	wantMisplaced(t, sp, let(x, enabled(then(c, then(b(0), c)))), 0, 1, 0, 1, 0, 1, 0)
	wantOf(t, sp, let(x, enabled(then(then(b(0), c), c))), 0, 1)
}

// P6.2: the first misplaced node is a node ahead of its elements, and has the least that several rules allow.
func TestSeveralRules(t *testing.T) {
	sp := examples()
	wantMisplaced(t, sp, prime(prime(prime(x))), 0, 2, 1, 0)
	wantMisplaced(t, sp, let(prime(x), prime(b(0))), 0, 2, 0, 1, 0) // not 1, by EPrime alone
	wantMisplaced(t, sp, let(x, call(dPrime, b(0))), 0, 1, 0, 1, 0)
	wantMisplaced(t, sp, let(prime(x), enabled(call(dPrime, b(0)))), 0, 2, 0, 1, 0, 0)
	wantMisplaced(t, sp, let(prime(x), call(dEn, b(0))), 0, 2, 1, 1, 0)
	wantMisplaced(t, sp, let(prime(x), enabled(call(dEn, b(0)))), 0, 2, 1, 1, 0, 0)
	wantMisplaced(t, sp, ex(api.EAnd, prime(c), call(dPrime, prime(prime(x))), prime(prime(x))), 0, 2, 0, 1, 0)
	wantMisplaced(t, sp, let(x, call(dPrime, plus(b(0), c))), 0, 1, 0, 1, 0)
	wantMisplaced(t, sp, let(x, call(dPrime, all(1, c, b(0)))), 0, 1, 0, 1, 0)
	wantMisplaced(t, sp, call(dInc, let(x, call(dPrime, enabled(b(0))))), 0, 1, 0, 0, 1, 0)
}

// P6.2: operators as elements.
func TestHandedOver(t *testing.T) {
	sp := examples()
	sp.Defs = append(sp.Defs,
		with(def("UseIn", prime(apply(0, c))), 1),        // 4
		with(def("Two", eq(b(0), prime(b(1)))), 0, 0),    // 5
		with(def("Use2", apply(0, c, c)), 2),             // 6
		with(def("Hand", call(4, handed(0))), 1),         // 7
		with(def("EnUse", enabled(apply(0, c))), 1),      // 8
		def("Act", prime(x)),                             // 9
		with(def("ActOf", ex(api.ETuple, prime(x))), 0),  // 10
		with(def("StateOf", ex(api.ETuple, x, b(0))), 0), // 11
		with(def("EnPrime", enabled(call(1, b(0)))), 0),  // 12
		with(def("Three", call(5, b(1), b(0))), 0, 0))    // 13
	wantDefs(t, sp, lv(0, 2), lv(2, 0), lv(1, 1), lv(1, 2), lv(2, 0), lv(2, 2, 0), lv(0, 2), lv(2, 0), lv(1, 1), lv(2), lv(2, 2), lv(1, 2), lv(1, 0), lv(2, 0, 2))
	// A level that is too high, of an EOper (its Base), of an ELambda (its body).
	wantMisplaced(t, sp, call(4, oper(11)), 0, 1, 0, 0)
	wantMisplaced(t, sp, call(4, oper(10)), 0, 2, 0, 0)
	wantMisplaced(t, sp, call(4, lambda(1, x)), 0, 1, 0, 0)
	wantMisplaced(t, sp, call(8, lambda(1, prime(x))), 0, 2, 1, 0)
	wantOf(t, sp, call(8, oper(11)), 0, 1)
	wantOf(t, sp, call(4, oper(0)), 0, 2)
	wantOf(t, sp, call(4, lambda(1, b(0))), 0, 2)
	// An EOper whose arguments are not allowed to be actions: its own level is looked at ahead of that.
	wantMisplaced(t, sp, call(3, oper(1)), 0, 2, 0, 0)
	wantMisplaced(t, sp, call(3, oper(2)), 0, 2, 1, 0)
	wantMisplaced(t, sp, call(6, oper(5)), 0, 2, 0, 0)
	wantMisplaced(t, sp, call(6, oper(13)), 0, 2, 0, 0)
	wantMisplaced(t, sp, call(4, oper(2)), 0, 1, 0, 0)
	wantMisplaced(t, sp, call(3, oper(12)), 0, 2, 0, 0)
	wantMisplaced(t, sp, call(8, oper(1)), 0, 2, 1, 0) // its level, an action, is allowed 1; otherwise it would be 0
	wantMisplaced(t, sp, ex(api.EAnd, call(3, oper(2)), prime(prime(x))), 0, 2, 1, 0, 0)
	// The level of a call has that of the operators in it.
	wantOf(t, sp, call(6, lambda(2, prime(x))), 0, 2)
	wantOf(t, sp, call(6, lambda(2, x)), 0, 1)
	wantOf(t, sp, call(3, oper(10)), 0, 2)
	wantMisplaced(t, sp, prime(call(6, lambda(2, prime(x)))), 0, 2, 1, 0)
}

// P6.2: the values of an ELambda are constants as nodes, and actions where it is asked what is bound.
func TestBoundByLambda(t *testing.T) {
	sp := examples()
	use := func(e api.Expr) api.Expr { return call(dUse, lambda(1, e)) }
	wantOf(t, sp, use(b(0)), 0, 1)
	wantMisplaced(t, sp, use(prime(b(0))), 0, 2, 0, 0, 0, 0)
	wantMisplaced(t, sp, use(unchanged(plus(b(0), c))), 0, 2, 0, 0, 0, 0, 0)
	wantMisplaced(t, sp, use(enabled(b(0))), 0, 2, 1, 0, 0, 0)
	wantMisplaced(t, sp, use(then(b(0), c)), 0, 2, 1, 0, 0, 0)
	wantMisplaced(t, sp, use(then(c, b(0))), 0, 2, 0, 0, 0, 1)
	wantMisplaced(t, sp, use(call(dPrime, b(0))), 0, 2, 0, 0, 0, 0)
	wantMisplaced(t, sp, use(call(dEn, plus(c, b(0)))), 0, 2, 1, 0, 0, 0, 1)
	wantOf(t, sp, use(call(dInc, b(0))), 0, 1)
	wantMisplaced(t, sp, use(prime(plus(prime(x), b(0)))), 0, 2, 1, 0, 0, 0) // the sum ahead of its element
	// What ELet binds to it counts likewise.
	wantMisplaced(t, sp, use(let(b(0), prime(b(1)))), 0, 2, 0, 0, 0, 1, 0)
	wantMisplaced(t, sp, use(let(plus(b(0), c), let(b(1), call(dEn, b(2))))), 0, 2, 1, 0, 0, 1, 1, 0)
	wantMisplaced(t, sp, use(except(c, b(0), unchanged(b(1)))), 0, 2, 0, 0, 0, 2, 0)
	wantOf(t, sp, use(let(c, prime(b(1)))), 0, 2)
	wantOf(t, sp, use(let(b(0), plus(b(1), prime(x)))), 0, 2)
	// Within the ELambda alone.
	wantOf(t, sp, all(1, c, use(prime(b(0)))), 0, 2)
	wantOf(t, sp, enabled(use(b(0))), 0, 1)
	wantMisplaced(t, sp, let(x, use(prime(b(0)))), 0, 1, 0, 1, 0, 0, 0)
	wantMisplaced(t, sp, let(x, use(call(dUse, lambda(1, prime(b(2)))))), 0, 2, 0, 1, 0, 0, 0, 0, 0)
}

// P6.2: Most of parameters.
func TestMost(t *testing.T) {
	for _, l := range []struct {
		e    api.Expr
		want api.Level
	}{
		{c, lv(0, 2)}, {b(0), lv(0, 2)}, {prime(b(0)), lv(2, 0)}, {unchanged(b(0)), lv(2, 0)}, {enabled(b(0)), lv(1, 1)},
		{then(b(0), c), lv(2, 1)}, {then(c, b(0)), lv(2, 0)}, {then(b(0), b(0)), lv(2, 0)},
		{enabled(prime(b(0))), lv(1, 0)}, {prime(enabled(b(0))), lv(2, 0)}, {ex(api.EAnd, b(0), enabled(b(0)), b(0)), lv(1, 1)},
		{ex(api.EAnd, enabled(b(0)), prime(ex(api.ENot, b(0)))), lv(2, 0)},
		{let(b(0), c), lv(0, 2)}, {let(b(0), b(1)), lv(0, 2)}, {let(b(0), prime(b(1))), lv(2, 0)}, {let(b(0), enabled(b(1))), lv(1, 1)},
		{let(prime(b(0)), b(1)), lv(2, 0)}, {let(c, prime(b(1))), lv(2, 2)}, {prime(let(b(0), b(1))), lv(2, 0)},
		{let(b(0), let(b(1), prime(b(2)))), lv(2, 0)}, {let(b(0), let(b(1), enabled(b(2)))), lv(1, 1)}, {let(b(0), let(c, prime(b(2)))), lv(2, 2)},
		{let(let(b(0), b(1)), prime(b(1))), lv(2, 0)}, {let(let(b(0), prime(b(1))), b(1)), lv(2, 0)}, {let(plus(b(0), c), then(c, ex(api.ENot, b(1)))), lv(2, 0)},
		{let(b(0), let(ex(api.ENot, b(1)), let(plus(c, b(2)), unchanged(b(3))))), lv(2, 0)},
		{let(b(0), ex(api.EAnd, enabled(b(1)), let(b(1), prime(b(2))))), lv(2, 0)},
		{except(b(0), c, prime(b(1))), lv(2, 0)}, {except(c, b(0), prime(b(1))), lv(2, 0)}, {except(c, c, prime(b(0))), lv(2, 0)}, {except(b(0), b(0), b(1)), lv(0, 2)},
		{except(b(0), c, enabled(b(1))), lv(1, 1)}, {except(c, c, b(0)), lv(0, 2)}, {except(c, c, prime(b(1))), lv(2, 2)},
		{except(let(b(0), b(1)), c, let(b(1), enabled(b(2)))), lv(1, 1)},
		{all(1, b(0), prime(b(1))), lv(2, 2)}, {all(1, c, prime(eq(b(0), b(1)))), lv(2, 0)}, {all(2, c, b(0), unchanged(b(2))), lv(2, 2)},
		{ex(api.EChoose, b(0), prime(b(1))), lv(2, 2)},
	} {
		wantDefs(t, small(with(def("D", l.e), 0)), l.want)
	}
}

// P6.2: Most of parameters that occur in arguments, and of operators.
func TestMostThroughCalls(t *testing.T) {
	sp := examples()
	for _, l := range []struct {
		e      api.Expr
		params []int
		want   api.Level
	}{
		{call(dPrime, b(0)), []int{0}, lv(2, 0)},
		{call(dEn, ex(api.ENot, b(0))), []int{0}, lv(1, 1)},
		{call(dInc, call(dEn, b(0))), []int{0}, lv(1, 1)},
		{call(dPrime, call(dEn, b(0))), []int{0}, lv(2, 0)}, // which is misplaced for its level
		{let(b(0), call(dPrime, b(1))), []int{0}, lv(2, 0)},
		{prime(apply(0, c)), []int{1}, lv(2, 0)},
		{apply(0, prime(b(1))), []int{1, 0}, lv(2, 2, 0)},
		{prime(apply(0, b(1))), []int{1, 0}, lv(2, 0, 0)},
		{call(dUse, handed(0)), []int{1}, lv(1, 2)},
		{enabled(call(dUse, handed(0))), []int{1}, lv(1, 1)},
		{let(apply(0, c), unchanged(b(1))), []int{1}, lv(2, 0)},
		{call(dUse, lambda(1, prime(b(0)))), []int{0}, lv(2, 0)},
		{call(dUse, lambda(1, plus(b(1), enabled(b(0))))), []int{0}, lv(1, 1)},
		{all(1, b(0), apply(1, prime(b(2)))), []int{0, 1}, lv(2, 2, 2)},
	} {
		sp.Defs = append(sp.Defs[:4:4], with(def("D", l.e), l.params...))
		got, _, m, err := level.Defs(sp)
		if l.e.Kind == api.ECall && l.e.N == dPrime && l.e.L[0].Kind == api.ECall {
			if err != api.ErrLevel || !same(m, api.Misplace{Path: []int{0}, Has: 1, Allows: 0}) {
				t.Errorf("%s: %v, error %d", shown(l.e), m, err)
			}
			continue
		}
		if err != api.OK || got[4].Base != l.want.Base || !slices.Equal(got[4].Most, l.want.Most) {
			t.Errorf("%s: %v, error %d, want %v", shown(l.e), got, err, l.want)
		}
	}
}

// P6.2: the least Base and the greatest Most of definitions that call each other.
func TestRecursive(t *testing.T) {
	wantDefs(t, small(rec(with(def("F", call(0, b(0))), 0))), lv(0, 2))
	wantDefs(t, small(rec(with(def("F", ex(api.EIf, b(0), call(0, b(0)), x)), 0))), lv(1, 2))
	wantDefs(t, small(
		rec(with(def("F", call(1, b(0))), 0)), rec(with(def("G", ex(api.EIf, enabled(b(0)), call(0, b(0)), prime(x))), 0))), lv(2, 1), lv(2, 1))
	wantDefs(t, small( // each one calls the next one, which is behind it
		rec(with(def("F", call(1, b(0), c)), 0)),
		rec(with(def("G", call(2, b(1), b(0))), 0, 0)),
		rec(with(def("H", call(3, b(0), b(1))), 0, 0)),
		rec(with(def("I", ex(api.EIf, prime(b(1)), call(0, b(0)), x)), 0, 0))), lv(2, 0), lv(2, 0, 0), lv(2, 0, 0), lv(2, 0, 0))
	wantDefs(t, small( // what one argument is allowed goes round
		rec(with(def("F", ex(api.EIf, enabled(b(2)), call(0, b(2), b(0), b(1)), prime(x))), 0, 0, 0))), lv(2, 1, 1, 1))
	wantDefs(t, small(
		rec(with(def("F", ex(api.EIf, enabled(b(2)), call(0, b(0), b(2), b(1)), prime(x))), 0, 0, 0))), lv(2, 2, 1, 1))
	wantDefs(t, small(rec(with(def("F", let(call(0, c), b(1))), 0))), lv(0, 2))
	wantDefs(t, small(
		with(def("A", ex(api.ENot, b(0))), 0),
		rec(with(def("F", let(b(0), call(1, b(1)))), 0)),
		rec(with(def("G", call(1, prime(b(0)))), 0))), lv(0, 2), lv(0, 2), lv(2, 0))
	wantDefs(t, small( // by what is bound to the value
		rec(with(def("F", let(b(0), call(1, b(1)))), 0)),
		rec(with(def("G", ex(api.EIf, c, call(0, b(0)), unchanged(b(0)))), 0))), lv(2, 0), lv(2, 0))
	sp := small(rec(with(def("F", ex(api.EAnd, call(0, call(0, b(0))), enabled(b(0)), prime(x))), 0)))
	if _, i, m, err := level.Defs(sp); err != api.ErrLevel || i != 0 || !same(m, api.Misplace{Path: []int{0, 0}, Has: 2, Allows: 1}) {
		t.Errorf("%d, %v, error %d", i, m, err)
	}
}

// P6.2
func TestFirstDefinition(t *testing.T) {
	sp := small(
		def("A", c),
		def("B", ex(api.EAnd, c, prime(prime(x)), prime(prime(x)))),
		def("C", unchanged(unchanged(x))),
		with(def("D", ex(api.ETuple, b(0), call(1))), 0),
		def("E", call(0)))
	l, i, m, err := level.Defs(sp)
	if len(l) != 0 || i != 1 || err != api.ErrLevel || !same(m, api.Misplace{Path: []int{1, 0}, Has: 2, Allows: 1}) {
		t.Errorf("%v, %d, %v, error %d", l, i, m, err)
	}
	wantOf(t, sp, ex(api.EAnd, call(0), call(4)), 0, 0)
	wantMisplaced(t, sp, call(1), 0, 0, 0)
	wantMisplaced(t, sp, call(2), 0, 0, 0)
	wantMisplaced(t, sp, call(3, c), 0, 0, 0) // by another one
	wantMisplaced(t, sp, ex(api.EAnd, call(3, c), prime(prime(x))), 0, 2, 1, 1, 0)
	sp.Defs[3] = with(def("D", b(0)), 0)
	wantMisplaced(t, sp, call(3, call(1)), 0, 0, 0)
	sp.Defs = append(sp.Defs, with(def("T", apply(0, c)), 1))
	sp.Defs[1].Params = []int{0}
	wantMisplaced(t, sp, call(5, oper(1)), 0, 0, 0)
	wantMisplaced(t, sp, call(5, lambda(1, call(3, call(2)))), 0, 0, 0)
	if l, i, m, err := level.Defs(small()); len(l) != 0 || i != 0 || err != api.OK || !same(m, api.Misplace{}) {
		t.Errorf("%v, %d, %v, error %d", l, i, m, err)
	}
}

// wantCheck compares what Check returns.
func wantCheck(t *testing.T, sp api.Spec, part, index int, want api.Misplace, wanted api.Errno) {
	t.Helper()
	p, i, m, err := level.Check(sp)
	if p != part || i != index || err != wanted || !same(m, want) {
		t.Errorf("%d, %d, %v, error %d, want %d, %d, %v, %d", p, i, m, err, part, index, want, wanted)
	}
}

// highest returns a specification all parts of which are as high as they may be.
func highest() api.Spec {
	sp := small(def("A", c), def("B", prime(x)))
	sp.Vars[1].Type = ex(api.EPower, c)
	sp.Assume = []api.Expr{c, call(0)}
	sp.Init, sp.Next = enabled(prime(x)), prime(x)
	sp.Fair = []api.Fair{{A: prime(x), Sub: x}, {A: call(1), Sub: c}}
	sp.Invs = []api.Named{{Name: "I", E: x}, {Name: "J", E: enabled(call(1))}}
	sp.Cons, sp.ACons = []api.Expr{x, y}, []api.Expr{unchanged(x), x}
	sp.View = []api.Expr{ex(api.ETuple, x)}
	return sp
}

// place is a part of a specification.
type place struct {
	part, index, allows int
	set                 func(sp *api.Spec, e api.Expr)
}

// places returns the parts of highest, in order.
func places() []place {
	return []place{
		{api.PtDef, 0, 2, func(sp *api.Spec, e api.Expr) { sp.Defs[0].Body = e }},
		{api.PtDef, 1, 2, func(sp *api.Spec, e api.Expr) { sp.Defs[1].Body = e }},
		{api.PtType, 0, 0, func(sp *api.Spec, e api.Expr) { sp.Vars[0].Type = e }},
		{api.PtType, 1, 0, func(sp *api.Spec, e api.Expr) { sp.Vars[1].Type = e }},
		{api.PtAssume, 0, 0, func(sp *api.Spec, e api.Expr) { sp.Assume[0] = e }},
		{api.PtAssume, 1, 0, func(sp *api.Spec, e api.Expr) { sp.Assume[1] = e }},
		{api.PtInit, 0, 1, func(sp *api.Spec, e api.Expr) { sp.Init = e }},
		{api.PtNext, 0, 2, func(sp *api.Spec, e api.Expr) { sp.Next = e }},
		{api.PtFair, 0, 2, func(sp *api.Spec, e api.Expr) { sp.Fair[0].A = e }},
		{api.PtSub, 0, 1, func(sp *api.Spec, e api.Expr) { sp.Fair[0].Sub = e }},
		{api.PtFair, 1, 2, func(sp *api.Spec, e api.Expr) { sp.Fair[1].A = e }},
		{api.PtSub, 1, 1, func(sp *api.Spec, e api.Expr) { sp.Fair[1].Sub = e }},
		{api.PtInv, 0, 1, func(sp *api.Spec, e api.Expr) { sp.Invs[0].E = e }},
		{api.PtInv, 1, 1, func(sp *api.Spec, e api.Expr) { sp.Invs[1].E = e }},
		{api.PtCons, 0, 1, func(sp *api.Spec, e api.Expr) { sp.Cons[0] = e }},
		{api.PtCons, 1, 1, func(sp *api.Spec, e api.Expr) { sp.Cons[1] = e }},
		{api.PtACons, 0, 2, func(sp *api.Spec, e api.Expr) { sp.ACons[0] = e }},
		{api.PtACons, 1, 2, func(sp *api.Spec, e api.Expr) { sp.ACons[1] = e }},
		{api.PtView, 0, 1, func(sp *api.Spec, e api.Expr) { sp.View[0] = e }},
	}
}

// P6.2, P6.12
func TestCheck(t *testing.T) {
	wantCheck(t, highest(), 0, 0, api.Misplace{}, api.OK)
	levels := []api.Expr{c, x, prime(x)}
	inner := ex(api.EAnd, c, prime(plus(x, prime(y))))
	misplaced := api.Misplace{Path: []int{1, 0}, Has: 2, Allows: 1}
	all := places()
	for i, p := range all {
		for lv, e := range levels {
			sp := highest()
			p.set(&sp, e)
			switch {
			case p.part == api.PtDef && p.index == 0 && lv > 0:
				wantCheck(t, sp, api.PtAssume, 1, api.Misplace{Has: lv}, api.ErrLevel) // which calls it
			case lv <= p.allows:
				wantCheck(t, sp, 0, 0, api.Misplace{}, api.OK)
			default:
				wantCheck(t, sp, p.part, p.index, api.Misplace{Has: lv, Allows: p.allows}, api.ErrLevel)
			}
		}
		sp := highest()
		p.set(&sp, inner)
		wantCheck(t, sp, p.part, p.index, misplaced, api.ErrLevel)
		for _, later := range all[i+1:] { // the first one is found
			sp := highest()
			p.set(&sp, inner)
			later.set(&sp, prime(prime(x)))
			wantCheck(t, sp, p.part, p.index, misplaced, api.ErrLevel)
		}
	}
	sp := highest()
	sp.Props = []api.Prop{{Name: "P", T: api.Temp{E: prime(prime(x))}}}
	wantCheck(t, sp, 0, 0, api.Misplace{}, api.OK)
}

// P6.2, P6.3, P6.4: errors, in their order.
func TestErrors(t *testing.T) {
	good, bad := examples(), examples()
	bad.Defs[0].Body = b(1)
	for _, l := range []struct {
		sp    api.Spec
		e     api.Expr
		bound int
		want  api.Errno
	}{
		{bad, api.Expr{}, -1, api.ErrSpec}, {bad, x, 0, api.ErrSpec}, {good, api.Expr{}, -1, api.ErrArg}, {good, api.Expr{}, 41, api.ErrArg},
		{good, api.Expr{}, 40, api.ErrExpr}, {good, b(1), 1, api.ErrExpr}, {good, conj(3001), 0, api.ErrExpr}, {good, deep(101), 0, api.ErrExpr},
		{good, binders(41, x), 0, api.ErrExpr}, {good, oper(0), 0, api.ErrExpr}, {good, prime(prime(b(1))), 1, api.ErrExpr},
	} {
		n, m, err := level.Of(l.sp, l.e, l.bound)
		if n != 0 || !same(m, api.Misplace{}) || err != l.want {
			t.Errorf("Of(%s, %d): %d, %v, error %d, want %d", cut(shown(l.e)), l.bound, n, m, err, l.want)
		}
		u, err := level.Reads(l.sp, l.e, l.bound)
		if len(u.Now)+len(u.Then)+len(u.Consts)+len(u.Defs) > 0 || err != l.want {
			t.Errorf("Reads(%s, %d): %v, error %d, want %d", cut(shown(l.e)), l.bound, u, err, l.want)
		}
		free, err := level.Free(l.sp, l.e, l.bound)
		if len(free) > 0 || err != l.want {
			t.Errorf("Free(%s, %d): %v, error %d, want %d", cut(shown(l.e)), l.bound, free, err, l.want)
		}
		e, err := level.Inline(l.sp, l.e, l.bound)
		if !isZero(e) || err != l.want {
			t.Errorf("Inline(%s, %d): error %d, want %d", cut(shown(l.e)), l.bound, err, l.want)
		}
		e, err = level.Subst(l.sp, l.e, l.bound, -1, []api.Expr{{}})
		if !isZero(e) || err != l.want {
			t.Errorf("Subst(%s, %d): error %d, want %d", cut(shown(l.e)), l.bound, err, l.want)
		}
	}
	if l, i, m, err := level.Defs(bad); len(l) > 0 || i != 0 || !same(m, api.Misplace{}) || err != api.ErrSpec {
		t.Errorf("Defs: %v, %d, %v, error %d", l, i, m, err)
	}
	wantCheck(t, bad, 0, 0, api.Misplace{}, api.ErrSpec)
}
