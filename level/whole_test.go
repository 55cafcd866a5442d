package level_test

import (
	"fmt"
	"slices"
	"strings"
	"testing"

	"foregone/api"
	"foregone/level"
)

// names returns so many different names.
func names(count int) []string {
	var l []string
	for i := range count {
		l = append(l, fmt.Sprint("n", i))
	}
	return l
}

// named returns so many invariants.
func named(count int) []api.Named {
	var l []api.Named
	for _, s := range names(count) {
		l = append(l, api.Named{Name: s, E: x})
	}
	return l
}

func wantWhole(t *testing.T, what string, want api.Errno, change func(sp *api.Spec)) {
	t.Helper()
	sp := small()
	change(&sp)
	if err := level.Whole(sp); err != want {
		t.Errorf("%s: error %d, want %d", what, err, want)
	}
}

// P6.1: the largest numbers, and one more.
func TestLimits(t *testing.T) {
	for _, l := range []struct {
		what   string
		most   int
		change func(sp *api.Spec, n int)
	}{
		{"models", 40, func(sp *api.Spec, n int) { sp.Models = append([]string{"a", "b"}, names(n-2)...) }},
		{"constants", 20, func(sp *api.Spec, n int) {
			sp.Consts = nil
			for _, s := range names(n) {
				sp.Consts = append(sp.Consts, api.Const{Name: s})
			}
		}},
		{"variables", 16, func(sp *api.Spec, n int) {
			sp.Vars = nil
			for _, s := range names(n) {
				sp.Vars = append(sp.Vars, api.Var{Name: s, Type: c})
			}
		}},
		{"definitions", 100, func(sp *api.Spec, n int) {
			sp.Defs = nil
			for _, s := range names(n) {
				sp.Defs = append(sp.Defs, def(s, c))
			}
		}},
		{"parameters", 8, func(sp *api.Spec, n int) { sp.Defs = []api.Def{with(def("D", c), make([]int, n)...)} }},
		{"values of an operator", 8, func(sp *api.Spec, n int) { sp.Defs = []api.Def{with(def("D", c), n)} }},
		{"assumptions", 40, func(sp *api.Spec, n int) { sp.Assume = slices.Repeat([]api.Expr{c}, n) }},
		{"conditions", 40, func(sp *api.Spec, n int) { sp.Fair = slices.Repeat([]api.Fair{{A: x, Sub: x}}, n) }},
		{"invariants", 40, func(sp *api.Spec, n int) { sp.Invs = named(n) }},
		{"properties", 40, func(sp *api.Spec, n int) {
			for _, s := range names(n) {
				sp.Props = append(sp.Props, api.Prop{Name: s})
			}
		}},
		{"constraints", 40, func(sp *api.Spec, n int) { sp.Cons = slices.Repeat([]api.Expr{x}, n) }},
		{"action constraints", 40, func(sp *api.Spec, n int) { sp.ACons = slices.Repeat([]api.Expr{x}, n) }},
		{"views", 1, func(sp *api.Spec, n int) { sp.View = slices.Repeat([]api.Expr{x}, n) }},
		{"groups", 10, func(sp *api.Spec, n int) {
			sp.Models = append(names(30), "a")
			for i := range n {
				sp.Groups = append(sp.Groups, sp.Models[2*i:2*i+2])
			}
		}},
		{"nodes", 2996, func(sp *api.Spec, n int) { sp.Next = conj(n) }}, // with Init, two types, and a definition
		{"nodes of a definition", 2996, func(sp *api.Spec, n int) { sp.Defs[0].Body = conj(n) }},
		{"depth", 100, func(sp *api.Spec, n int) { sp.Init = deep(n) }},
		{"depth of a definition", 100, func(sp *api.Spec, n int) { sp.Defs[0].Body = deep(n) }},
		{"length of a name", 40, func(sp *api.Spec, n int) { sp.Vars[0].Name = strings.Repeat("a", n) }},
		{"length of a definition's name", 40, func(sp *api.Spec, n int) { sp.Defs[0].Name = strings.Repeat("!", n) }},
		{"scope", 40, func(sp *api.Spec, n int) { sp.Next = binders(n, x) }},
		{"scope of a definition", 32, func(sp *api.Spec, n int) {
			sp.Defs[0] = with(def("D", binders(n, x)), 0, 1, 2, 3, 4, 5, 6, 7)
		}},
	} {
		for i, want := range []api.Errno{api.OK, api.ErrSpec} {
			sp := small(def("E", c))
			l.change(&sp, l.most+i)
			if err := level.Whole(sp); err != want {
				t.Errorf("%d %s: error %d", l.most+i, l.what, err)
			}
		}
	}
}

// P6.1: nodes of all parts count together, those of formulas do not.
func TestNodesTogether(t *testing.T) {
	for i, want := range []api.Errno{api.OK, api.ErrSpec} {
		sp := small(def("D", conj(200)))
		sp.Vars[0].Type, sp.Init, sp.Next = conj(200), conj(200), conj(200)
		sp.Assume, sp.Cons, sp.ACons, sp.View = []api.Expr{conj(200)}, []api.Expr{conj(200)}, []api.Expr{conj(200)}, []api.Expr{conj(200)}
		sp.Fair = []api.Fair{{A: conj(200), Sub: conj(200)}}
		sp.Invs = []api.Named{{Name: "I", E: conj(3000 - 10*200 - 1 + i)}} // the other variable has a type, too
		sp.Props = []api.Prop{{Name: "P", T: api.Temp{Kind: 99, E: conj(4000)}}}
		if err := level.Whole(sp); err != want {
			t.Errorf("%d more: error %d", i, err)
		}
	}
}

// P6.1
func TestNames(t *testing.T) {
	change := map[string]func(sp *api.Spec, s string){
		"model":     func(sp *api.Spec, s string) { sp.Models[1] = s },
		"constant":  func(sp *api.Spec, s string) { sp.Consts[0].Name = s },
		"variable":  func(sp *api.Spec, s string) { sp.Vars[0].Name = s },
		"invariant": func(sp *api.Spec, s string) { sp.Invs = []api.Named{{Name: s, E: x}} },
		"property":  func(sp *api.Spec, s string) { sp.Props = []api.Prop{{Name: s}} },
	}
	for what, f := range change {
		for _, s := range []string{"k", "K_9", "Truth", "TRUEST"} {
			wantWhole(t, what+" "+s, api.OK, func(sp *api.Spec) { f(sp, s) })
		}
		for _, s := range []string{"", "_k", "9", "a!b", "TRUE", "FALSE", "a b", strings.Repeat("k", 41)} {
			wantWhole(t, what+" "+s, api.ErrSpec, func(sp *api.Spec) { f(sp, s) })
		}
	}
	for s, want := range map[string]api.Errno{"D": api.OK, "I!D": api.OK, "9!~": api.OK, "TRUE": api.OK, "": api.ErrSpec, "a b": api.ErrSpec, "a\x7f": api.ErrSpec, "\xc3": api.ErrSpec, "a\n": api.ErrSpec} {
		wantWhole(t, "definition "+s, want, func(sp *api.Spec) { sp.Defs = []api.Def{def(s, c)} })
	}
}

// P6.1: names that come twice in one list, and those that come in two lists.
func TestNamesTwice(t *testing.T) {
	for what, change := range map[string]func(sp *api.Spec, s string){
		"model":      func(sp *api.Spec, s string) { sp.Models = []string{"a", "b", "k", s} },
		"constant":   func(sp *api.Spec, s string) { sp.Consts = []api.Const{{Name: "k"}, {Name: s}} },
		"variable":   func(sp *api.Spec, s string) { sp.Vars[0].Name, sp.Vars[1].Name = "k", s },
		"definition": func(sp *api.Spec, s string) { sp.Defs = []api.Def{def("k", c), def("l", c), def(s, c)} },
		"invariant":  func(sp *api.Spec, s string) { sp.Invs = []api.Named{{Name: "k", E: x}, {Name: s, E: x}} },
		"property":   func(sp *api.Spec, s string) { sp.Props = []api.Prop{{Name: "k"}, {Name: s}} },
	} {
		wantWhole(t, what, api.ErrSpec, func(sp *api.Spec) { change(sp, "k") })
		wantWhole(t, what, api.OK, func(sp *api.Spec) { change(sp, "m") })
	}
	wantWhole(t, "one name everywhere", api.OK, func(sp *api.Spec) {
		sp.Models, sp.Consts[0], sp.Vars[0].Name = []string{"k"}, api.Const{Name: "k"}, "k"
		sp.Defs, sp.Invs, sp.Props = []api.Def{def("k", c)}, []api.Named{{Name: "k", E: x}}, []api.Prop{{Name: "k"}}
	})
}

// P6.1
func TestParts(t *testing.T) {
	wrong := exn(api.EVar, 2)
	for what, change := range map[string]func(sp *api.Spec, e api.Expr){
		"type":              func(sp *api.Spec, e api.Expr) { sp.Vars[1].Type = e },
		"assumption":        func(sp *api.Spec, e api.Expr) { sp.Assume = []api.Expr{c, e} },
		"init":              func(sp *api.Spec, e api.Expr) { sp.Init = e },
		"next":              func(sp *api.Spec, e api.Expr) { sp.Next = e },
		"fair action":       func(sp *api.Spec, e api.Expr) { sp.Fair = []api.Fair{{A: e, Sub: x}} },
		"fair subscript":    func(sp *api.Spec, e api.Expr) { sp.Fair = []api.Fair{{A: x, Sub: e, Strong: true}} },
		"invariant":         func(sp *api.Spec, e api.Expr) { sp.Invs = []api.Named{{Name: "I", E: e}} },
		"constraint":        func(sp *api.Spec, e api.Expr) { sp.Cons = []api.Expr{e} },
		"action constraint": func(sp *api.Spec, e api.Expr) { sp.ACons = []api.Expr{e} },
		"view":              func(sp *api.Spec, e api.Expr) { sp.View = []api.Expr{e} },
		"definition":        func(sp *api.Spec, e api.Expr) { sp.Defs = []api.Def{def("D", e)} },
	} {
		wantWhole(t, what, api.OK, func(sp *api.Spec) { change(sp, prime(prime(x))) }) // levels are not looked at
		wantWhole(t, what, api.ErrSpec, func(sp *api.Spec) { change(sp, wrong) })
		wantWhole(t, what, api.ErrSpec, func(sp *api.Spec) { change(sp, b(0)) })
		wantWhole(t, what, api.ErrSpec, func(sp *api.Spec) { change(sp, api.Expr{}) })
		wantWhole(t, what, api.ErrSpec, func(sp *api.Spec) { change(sp, ex(api.ENot, api.Expr{Kind: api.ELit, V: model("q")})) })
	}
	wantWhole(t, "formulas are not looked at", api.OK, func(sp *api.Spec) {
		sp.Props = []api.Prop{{Name: "P", T: api.Temp{Kind: -3, E: wrong, L: []api.Temp{{}}}}}
	})
	wantWhole(t, "dead", api.OK, func(sp *api.Spec) { sp.Dead = true })
	wantWhole(t, "no variable", api.ErrSpec, func(sp *api.Spec) { sp.Vars, sp.Next = nil, c })
	wantWhole(t, "a constant's model value", api.ErrSpec, func(sp *api.Spec) { sp.Consts[0].V = model("q") })
	wantWhole(t, "a model value within a constant", api.ErrSpec, func(sp *api.Spec) { sp.Consts[0].V = api.Val{Kind: api.VSet, L: []api.Val{model("q")}} })
	wantWhole(t, "a constant that is no value", api.OK, func(sp *api.Spec) { sp.Consts[0].V = api.Val{Kind: 44} })
	if err := level.Whole(api.Spec{}); err != api.ErrSpec {
		t.Errorf("error %d", err)
	}
}

// P6.1
func TestParameters(t *testing.T) {
	for _, l := range []struct {
		want   api.Errno
		body   api.Expr
		params []int
	}{
		{api.OK, c, nil}, {api.OK, b(1), []int{0, 0}}, {api.ErrSpec, b(2), []int{0, 0}},
		{api.OK, apply(1, b(0)), []int{0, 1}}, {api.ErrSpec, b(1), []int{0, 1}}, {api.ErrSpec, apply(0, b(0)), []int{0, 1}}, {api.ErrSpec, apply(1, b(0)), []int{0, 2}},
		{api.ErrSpec, c, []int{-1}}, {api.ErrSpec, c, []int{0, 9}}, {api.ErrSpec, handed(0), []int{1}}, {api.ErrSpec, c, make([]int, 9)},
		{api.OK, let(b(0), b(1)), []int{0}}, {api.ErrSpec, let(b(1), b(1)), []int{0}},
	} {
		wantWhole(t, fmt.Sprint(l.params, shown(l.body)), l.want, func(sp *api.Spec) { sp.Defs = []api.Def{with(def("D", l.body), l.params...)} })
	}
}

// P6.1: which definitions may be called in a body.
func TestMayCall(t *testing.T) {
	for _, from := range []int{0, 1, 2} {
		for to := range 3 {
			for recs := range 8 {
				isRec := func(i int) bool { return recs>>i&1 == 1 }
				want := api.ErrSpec
				if to < from || isRec(from) && isRec(to) {
					want = api.OK
				}
				for _, body := range []api.Expr{ex(api.ENot, call(to, x)), call(3, oper(to)), call(3, lambda(1, call(to, x)))} {
					sp := small(with(def("A", b(0)), 0), with(def("B", b(0)), 0), with(def("C", b(0)), 0))
					if body.Kind == api.ECall { // a definition that takes an operator stands ahead of the others
						sp.Defs = slices.Insert(sp.Defs, 0, rec(with(def("T", apply(0, x)), 1)))
						body = shifted(body)
						sp.Defs[from+1].Body = body
					} else {
						sp.Defs[from].Body = body
					}
					for i := range 3 {
						sp.Defs[len(sp.Defs)-3+i].Rec = isRec(i)
					}
					if err := level.Whole(sp); err != want {
						t.Errorf("%s: error %d, want %d", specShown(sp), err, want)
					}
				}
			}
		}
	}
	for recs := range 2 {
		sp := small(rec(with(def("A", ex(api.ENot, b(0))), 0)))
		sp.Defs[0].Rec = recs == 1
		sp.Next = call(0, call(0, x))
		if err := level.Whole(sp); err != api.OK {
			t.Errorf("error %d", err)
		}
	}
}

// shifted returns an expression for a specification with a further definition ahead of all others, in the place of the one that it has behind them.
func shifted(e api.Expr) api.Expr {
	e = clone(e)
	if e.Kind == api.ECall || e.Kind == api.EOper {
		e.N = (e.N + 1) % 4
	}
	for i := range e.L {
		e.L[i] = shifted(e.L[i])
	}
	return e
}

// P6.1
func TestGroups(t *testing.T) {
	for _, l := range []struct {
		want   api.Errno
		groups [][]string
	}{
		{api.OK, nil}, {api.OK, [][]string{{"a", "b"}}}, {api.OK, [][]string{{"b", "a", "d"}, {"e", "f"}}},
		{api.ErrSpec, [][]string{{}}}, {api.ErrSpec, [][]string{{"a"}}}, {api.ErrSpec, [][]string{{"a", "a"}}}, {api.ErrSpec, [][]string{{"a", "b", "a"}}},
		{api.ErrSpec, [][]string{{"a", "q"}}}, {api.ErrSpec, [][]string{{"a", "b"}, {"b", "d"}}}, {api.ErrSpec, [][]string{{"a", "b"}, {"d"}}},
	} {
		wantWhole(t, fmt.Sprint(l.groups), l.want, func(sp *api.Spec) { sp.Models, sp.Groups = []string{"a", "b", "d", "e", "f"}, l.groups })
	}
}
