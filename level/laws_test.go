package level_test

import (
	"fmt"
	"reflect"
	"slices"
	"testing"

	"foregone/api"
	"foregone/level"
)

// sample is a random specification with an expression in a scope of some values.
type sample struct {
	*maker
	sp    api.Spec
	e     api.Expr
	bound int
}

// eachSample calls a function for so many samples.
func eachSample(t *testing.T, count int, check func(t *testing.T, s sample)) {
	t.Helper()
	for seed := range count {
		m := newMaker(seed)
		sp := m.spec()
		bound := m.IntN(4)
		e := m.expr(make([]int, bound), 3+m.IntN(25))
		check(t, sample{m, sp, e, bound})
		if t.Failed() {
			t.Fatalf("seed %d: %s\n%s in %d", seed, specShown(sp), cut(shown(e)), bound)
		}
	}
}

// values returns some expressions in the scope of so many values.
func (s sample) values(count, from int) []api.Expr {
	var l []api.Expr
	for range count {
		l = append(l, s.expr(make([]int, from), 1+s.IntN(5)))
	}
	return l
}

func sameOf(sp api.Spec, e api.Expr, bound int, sq api.Spec, f api.Expr, bounds int) bool {
	n, m, err := level.Of(sp, e, bound)
	n2, m2, err2 := level.Of(sq, f, bounds)
	return n == n2 && same(m, m2) && err == err2
}

// P6.1, P6.2, P6.3: what the second way does.
func TestSecondWay(t *testing.T) {
	counts := map[string]int{}
	eachSample(t, 5000, func(t *testing.T, s sample) {
		if err := level.Whole(s.sp); err != api.OK {
			t.Errorf("Whole: error %d", err)
		}
		r := newReference(s.sp)
		n, m, err := level.Of(s.sp, s.e, s.bound)
		if n2, m2, err2 := r.of(s.e, s.bound); n != n2 || !same(m, m2) || err != err2 {
			t.Errorf("Of: %d, %v, error %d, want %d, %v, %d", n, m, err, n2, m2, err2)
		}
		counts[fmt.Sprint("level ", n, " error ", err)]++
		l, i, m, err := level.Defs(s.sp)
		if !sameDefs(r, l, i, m, err) {
			t.Errorf("Defs: %v, %d, %v, error %d", l, i, m, err)
		}
		u, err := level.Reads(s.sp, s.e, s.bound)
		if w := refReads(s.sp, s.e); usesOf(u) != usesOf(w) || err != api.OK {
			t.Errorf("Reads: %s, error %d, want %s", usesOf(u), err, usesOf(w))
		}
		from := s.IntN(s.bound + 1)
		put := s.values(s.IntN(s.bound-from+1), from)
		got, err := level.Subst(s.sp, s.e, s.bound, from, put)
		if want := refSubst(s.e, s.bound, from, put); !level.Same(got, want) || err != api.OK {
			t.Errorf("Subst %d, %d: %s, error %d, want %s", from, len(put), cut(shown(got)), err, cut(shown(want)))
		}
	})
	for _, what := range []string{"level 0 error 0", "level 1 error 0", "level 2 error 0", "level 0 error 60"} {
		if counts[what] < 200 {
			t.Errorf("%s: just %d", what, counts[what])
		}
	}
}

// sameDefs compares what Defs returns with what the second way knows.
func sameDefs(r *reference, l []api.Level, i int, m api.Misplace, err api.Errno) bool {
	for d := range r.sp.Defs {
		if want, is := r.body(d).misplaced(); is {
			return len(l) == 0 && i == d && same(m, want) && err == api.ErrLevel
		}
	}
	if len(l) != len(r.base) || i != 0 || !same(m, api.Misplace{}) || err != api.OK {
		return false
	}
	for d, lv := range l {
		if lv.Base != r.base[d] || !slices.Equal(lv.Most, r.most[d]) {
			return false
		}
	}
	return true
}

// P6.4: what the second way does; its nodes and calls say whether there is an error.
func TestInlineSecondWay(t *testing.T) {
	counts := map[api.Errno]int{}
	eachSample(t, 4000, func(t *testing.T, s sample) {
		got, err := level.Inline(s.sp, s.e, s.bound)
		counts[err]++
		want, calls, rec, is := refInline(s.sp, s.e, s.bound)
		if !is {
			return
		}
		nodes, depth := level.Size(want)
		_, narrow := refWhere(s.sp, -1, want, make([]int, s.bound), 0)
		wanted := api.OK
		switch {
		case rec: // or a limit ahead of that
			wanted = api.ErrRec
			if err == api.ErrLimit && calls > 100 {
				wanted = err
			}
		case nodes+calls > 3000 || depth > 100 || narrow:
			wanted = api.ErrLimit
		}
		if err != wanted || err == api.OK && !level.Same(got, want) || err != api.OK && !isZero(got) {
			t.Errorf("Inline: %s, error %d, want %s, %d", cut(shown(got)), err, cut(shown(want)), wanted)
		}
	})
	if counts[api.OK] < 500 || counts[api.ErrRec] < 100 {
		t.Errorf("%v", counts)
	}
}

// P6.5, P6.6
func TestByName(t *testing.T) {
	right, inlined := 0, 0
	eachSample(t, 6000, func(t *testing.T, s sample) {
		n, _, err := level.Of(s.sp, s.e, s.bound)
		if err != api.OK {
			return
		}
		right++
		u, _ := level.Reads(s.sp, s.e, s.bound)
		if n < 2 && len(u.Then) > 0 || n == 0 && len(u.Now) > 0 {
			t.Errorf("the level %d reads %s", n, usesOf(u))
		}
		f, err := level.Inline(s.sp, s.e, s.bound)
		if err != api.OK {
			return
		}
		inlined++
		n2, m, err := level.Of(s.sp, f, s.bound)
		u2, _ := level.Reads(s.sp, f, s.bound)
		if err != api.OK || n2 > n {
			t.Errorf("%s has the level %d, %v, error %d, not %d", cut(shown(f)), n2, m, err, n)
		}
		for i, l := range [][2][]int{{u2.Now, u.Now}, {u2.Then, u.Then}, {u2.Consts, u.Consts}, {u2.Defs, nil}} {
			for _, v := range l[0] {
				if !slices.Contains(l[1], v) {
					t.Errorf("%s reads %d, %d besides", cut(shown(f)), i, v)
				}
			}
		}
	})
	if right < 1500 || inlined < 1000 {
		t.Errorf("%d right ones, %d of them inlined", right, inlined)
	}
}

// P6.7
func TestSubstitution(t *testing.T) {
	eachSample(t, 2000, func(t *testing.T, s sample) {
		from := s.IntN(s.bound + 1)
		count := s.IntN(s.bound - from + 1)
		var l []api.Expr
		for range count {
			l = append(l, []api.Expr{num(1), c, {Kind: api.ELit, V: model("a")}}[s.IntN(3)])
		}
		f, err := level.Subst(s.sp, s.e, s.bound, from, l)
		if err != api.OK || !sameOf(s.sp, s.e, s.bound, s.sp, f, s.bound-count) {
			t.Errorf("%s: error %d, or another level", cut(shown(f)), err)
		}
		l = s.values(count, from)
		f, _ = level.Subst(s.sp, s.e, s.bound, from, l)
		before, _ := level.Free(s.sp, s.e, s.bound)
		after, _ := level.Free(s.sp, f, s.bound-count)
		var want []int
		for _, v := range before {
			switch {
			case v < from:
				want = append(want, v)
			case v >= from+count:
				want = append(want, v-count)
			default:
				put, _ := level.Free(s.sp, l[v-from], from)
				want = append(want, put...)
			}
		}
		slices.Sort(want)
		if want = slices.Compact(want); !slices.Equal(after, want) {
			t.Errorf("%s: %v, want %v", cut(shown(f)), after, want)
		}
	})
}

// lifted returns an expression in a scope of values for a scope with more of them.
func lifted(e api.Expr, from, more int) api.Expr {
	t := &terms{}
	scope := t.fresh(from + more)
	return t.named(e, scope[:from]).numbered(scope)
}

// P6.8
func TestSubstTwice(t *testing.T) {
	eachSample(t, 2000, func(t *testing.T, s sample) {
		for from := range s.bound + 1 {
			f, err := level.Subst(s.sp, s.e, s.bound, from, nil)
			if err != api.OK || !level.Same(f, s.e) {
				t.Errorf("%s by nothing: error %d", cut(shown(f)), err)
			}
		}
		from := s.IntN(s.bound + 1)
		first := s.IntN(s.bound - from + 1)
		later := s.IntN(s.bound - from - first + 1)
		l := s.values(first+later, from)
		var behind []api.Expr
		for _, x := range l[first:] {
			behind = append(behind, lifted(x, from, first))
		}
		f, err := level.Subst(s.sp, s.e, s.bound, from+first, behind)
		if err != api.OK {
			t.Errorf("error %d", err)
		}
		f, err = level.Subst(s.sp, f, s.bound-later, from, l[:first])
		want, err2 := level.Subst(s.sp, s.e, s.bound, from, l)
		if err != api.OK || err2 != api.OK || !level.Same(f, want) {
			t.Errorf("%s, error %d, want %s, %d", cut(shown(f)), err, cut(shown(want)), err2)
		}
	})
}

// P6.9
func TestOtherNames(t *testing.T) {
	eachSample(t, 2000, func(t *testing.T, s sample) {
		sp := s.sp
		sp.Defs, sp.Vars, sp.Consts = slices.Clone(sp.Defs), slices.Clone(sp.Vars), slices.Clone(sp.Consts)
		for i := range sp.Defs {
			sp.Defs[i].Name = fmt.Sprint("!", len(sp.Defs)-i)
		}
		sp.Vars[0].Name, sp.Vars[1].Name, sp.Consts[0].Name = "y", "q", "x"
		params := []int{0, 2}[:s.IntN(3)]
		m := &maker{Rand: s.Rand, sp: sp, within: len(sp.Defs), narrow: s.narrow}
		m.sp.Defs = append(m.sp.Defs, with(def("Z", x), params...))
		sp.Defs = append(sp.Defs, with(def("Z", m.expr(params, 10)), params...))
		if err := level.Whole(sp); err != api.OK {
			t.Fatalf("error %d", err)
		}
		if !sameOf(s.sp, s.e, s.bound, sp, s.e, s.bound) {
			t.Error("another level")
		}
		for i, d := range s.sp.Defs { // one by one, since one that is misplaced hides the others
			if !sameOf(s.sp, callOf(i, d), 0, sp, callOf(i, d), 0) {
				t.Errorf("another level of definition %d", i)
			}
		}
		l, i, misplaced, err := level.Defs(s.sp)
		l2, i2, misplaced2, err2 := level.Defs(sp)
		if err == api.OK && err2 == api.ErrLevel && i2 == len(s.sp.Defs) {
			return // the further one
		}
		if i != i2 || !same(misplaced, misplaced2) || err != err2 || len(l2) < len(l) || !slices.EqualFunc(l, l2[:len(l)], func(a, b api.Level) bool { return reflect.DeepEqual(a, b) }) {
			t.Errorf("%v, %d, %v, %d, not %v, %d, %v, %d", l2, i2, misplaced2, err2, l, i, misplaced, err)
		}
	})
}

// callOf returns a call of a definition.
func callOf(i int, d api.Def) api.Expr {
	e := call(i)
	for _, arity := range d.Params {
		if arity == 0 {
			e.L = append(e.L, prime(x))
		} else {
			e.L = append(e.L, lambda(arity, b(arity-1)))
		}
	}
	return e
}

// P6.10
func TestPrimes(t *testing.T) {
	eachSample(t, 5000, func(t *testing.T, s sample) {
		n, _, err := level.Of(s.sp, s.e, s.bound)
		if err != api.OK {
			return
		}
		for _, f := range []api.Expr{prime(s.e), unchanged(s.e)} {
			if n == 2 {
				wantMisplaced(t, s.sp, f, s.bound, 2, 1, 0)
			} else {
				wantOf(t, s.sp, f, s.bound, 2) // the chapter would allow a misplaced node where something is bound in it
			}
		}
		wantOf(t, s.sp, enabled(s.e), s.bound, 1)
	})
}

// P6.12
func TestPartsThatAreTooHigh(t *testing.T) {
	all := places()
	eachSample(t, 1500, func(t *testing.T, s sample) {
		p := all[2+s.IntN(len(all)-2)]
		sp := highest()
		sp.Defs = s.sp.Defs
		sp.Assume, sp.Fair[1].A, sp.Invs[1].E = []api.Expr{c, c}, x, x
		if _, _, _, err := level.Check(sp); err != api.OK {
			return
		}
		e := s.expr(nil, 8)
		p.set(&sp, e)
		n, m, err := level.Of(sp, e, 0)
		switch {
		case err != api.OK:
			wantCheck(t, sp, p.part, p.index, m, api.ErrLevel)
		case n > p.allows:
			wantCheck(t, sp, p.part, p.index, api.Misplace{Has: n, Allows: p.allows}, api.ErrLevel)
		default:
			wantCheck(t, sp, 0, 0, api.Misplace{}, api.OK)
		}
	})
}

// copyOf returns a deep copy of a value of any type.
func copyOf[T any](v T) T {
	c := reflect.New(reflect.TypeOf(v)).Elem()
	deepCopy(c, reflect.ValueOf(v))
	return c.Interface().(T)
}

func deepCopy(to, from reflect.Value) {
	switch from.Kind() {
	case reflect.Struct:
		for i := range from.NumField() {
			deepCopy(to.Field(i), from.Field(i))
		}
	case reflect.Slice:
		if from.IsNil() {
			return
		}
		to.Set(reflect.MakeSlice(from.Type(), from.Len(), from.Len()))
		for i := range from.Len() {
			deepCopy(to.Index(i), from.Index(i))
		}
	default:
		to.Set(from)
	}
}

// spoil changes everything in a value that can be changed.
func spoil(v reflect.Value) {
	switch v.Kind() {
	case reflect.Struct:
		for i := range v.NumField() {
			spoil(v.Field(i))
		}
	case reflect.Slice:
		for i := range v.Len() {
			spoil(v.Index(i))
		}
		if v.CanSet() && v.Len() < v.Cap() { // what stands behind the end
			spoil(v.Slice(v.Len(), v.Cap()))
		}
	case reflect.Int:
		v.SetInt(v.Int() - 1000)
	case reflect.String:
		v.SetString(v.String() + "?")
	case reflect.Bool:
		v.SetBool(!v.Bool())
	}
}

// P6.2, P6.3, P6.4: arguments are not changed, and results are new memory.
func TestPurity(t *testing.T) {
	lit := api.Expr{Kind: api.ELit, V: api.Val{Kind: api.VFun, I: api.Int{D: []int{7}}, L: []api.Val{{Kind: api.VSet, L: []api.Val{model("a")}}}, M: []api.Val{model("b")}}}
	rich := ex(api.ETuple, lit, exs(api.ERecord, "f g", lit, b(0)), b(0), call(dInc, b(0)))
	check := func(s sample) {
		sp, e := copyOf(s.sp), copyOf(s.e)
		put := []api.Expr{rich, lit}[:min(s.bound, 1)]
		kept := copyOf(put)
		results := func() []any {
			l, i, m, err := level.Defs(s.sp)
			n, m2, err2 := level.Of(s.sp, s.e, s.bound)
			part, j, m3, err3 := level.Check(s.sp)
			u, err4 := level.Reads(s.sp, s.e, s.bound)
			in, err5 := level.Inline(s.sp, s.e, s.bound)
			sub, err6 := level.Subst(s.sp, s.e, s.bound, 0, put)
			free, err7 := level.Free(s.sp, s.e, s.bound)
			path, found := level.Where(s.sp, ex(api.EAnd, s.e, x, oper(9)), make([]int, s.bound))
			return []any{&l, &i, &m, &err, &n, &m2, &err2, &part, &j, &m3, &err3, &u, &err4, &in, &err5, &sub, &err6, &free, &err7, &path, &found}
		}
		first := results()
		want := results()
		for _, r := range first {
			spoil(reflect.ValueOf(r).Elem())
		}
		if !reflect.DeepEqual(results(), want) || !reflect.DeepEqual(sp, s.sp) || !reflect.DeepEqual(e, s.e) || !reflect.DeepEqual(put, kept) {
			t.Errorf("%s: something changed", cut(shown(s.e)))
		}
	}
	for seed := range 300 {
		m := newMaker(seed)
		check(sample{m, m.spec(), m.expr(make([]int, 2), 20), 2})
	}
	sp := examples()
	sp.Defs = append(sp.Defs, with(def("Rich", ex(api.EAnd, lit, exs(api.EField, "f", lit), b(0))), 0))
	e := ex(api.EAnd, rich, call(4, rich), call(4, lit), b(1))
	rich.L[2] = x
	check(sample{nil, sp, e, 2})
	// Two places of one result share nothing.
	for _, make := range []func() (api.Expr, api.Errno){
		func() (api.Expr, api.Errno) {
			return level.Subst(sp, ex(api.ETuple, b(0), b(0)), 1, 0, []api.Expr{exs(api.ERecord, "f", lit)})
		},
		func() (api.Expr, api.Errno) { return level.Inline(sp, ex(api.ETuple, call(4, lit), call(4, lit)), 0) },
	} {
		f, err := make()
		other := copyOf(f.L[1])
		spoil(reflect.ValueOf(&f.L[0]).Elem())
		if err != api.OK || !reflect.DeepEqual(f.L[1], other) {
			t.Errorf("%s: error %d, or shared memory", cut(shown(f)), err)
		}
	}
}

// P6.1, P6.3: trees that are as deep as they may be.
func TestDeepOnes(t *testing.T) {
	sp := examples()
	long := deep(60000)
	v := model("a")
	for range 60000 {
		v = api.Val{Kind: api.VSet, L: []api.Val{v}}
	}
	lit := api.Expr{Kind: api.ELit, V: v}
	if _, found := level.Where(sp, long, nil); found {
		t.Error("a node")
	}
	wrong := exn(api.EVar, 9)
	for range 59999 {
		wrong = ex(api.ENot, wrong)
	}
	if path, found := level.Where(sp, wrong, nil); !found || len(path) != 59999 {
		t.Errorf("%d, %v", len(path), found)
	}
	if err := level.Shape(sp, lit, 0); err != api.OK {
		t.Errorf("error %d", err)
	}
	if err := level.Shape(sp, long, 0); err != api.ErrExpr {
		t.Errorf("error %d", err)
	}
	if !level.Same(long, deep(60000)) || level.Same(long, wrong) {
		t.Error("Same")
	}
	if got, err := level.Subst(sp, b(0), 1, 0, []api.Expr{lit}); err != api.OK || !level.Same(got, lit) {
		t.Errorf("error %d", err)
	}
	if _, err := level.Subst(sp, b(0), 1, 0, []api.Expr{long}); err != api.ErrLimit {
		t.Errorf("error %d", err)
	}
	shared := x // as many nodes as no memory has room for
	for range 99 {
		shared = ex(api.EAnd, shared, shared)
	}
	if err := level.Shape(sp, shared, 0); err != api.ErrExpr {
		t.Errorf("error %d", err)
	}
}
