package level_test

import (
	"fmt"
	"maps"
	"slices"
	"strconv"

	"foregone/api"
)

// A second way to do what the package does, which follows the rules word by word along paths, and renames by names.

// row is a row of the table of kinds: the numbers of elements (any number if most is negative), the fields that the kind uses, and how many more values its elements see.
type row struct {
	least, most int
	fields      string
	sees        string // "i": L[i] i more; "N": the last one N more; "1": the last one one more
}

// rows is the table; numbers of elements that hang on N, on S, on a definition or an operator are 0 here.
var rows = map[int]row{
	api.ELit: {0, 0, "V", ""}, api.EVar: {0, 0, "N", ""}, api.EConst: {0, 0, "N", ""}, api.EBound: {0, 0, "N", ""},
	api.EPrime: {1, 1, "", ""}, api.ENot: {1, 1, "", ""}, api.EPower: {1, 1, "", ""}, api.EUnion: {1, 1, "", ""},
	api.EDomain: {1, 1, "", ""}, api.EEnabled: {1, 1, "", ""}, api.EUnchanged: {1, 1, "", ""},
	api.EImplies: {2, 2, "", ""}, api.EIff: {2, 2, "", ""}, api.EEq: {2, 2, "", ""}, api.EIn: {2, 2, "", ""},
	api.ESubset: {2, 2, "", ""}, api.ECup: {2, 2, "", ""}, api.ECap: {2, 2, "", ""}, api.EMinus: {2, 2, "", ""},
	api.EApply: {2, 2, "", ""}, api.EFunSet: {2, 2, "", ""}, api.ECompose: {2, 2, "", ""}, api.EIf: {3, 3, "", ""},
	api.EAnd: {0, -1, "", ""}, api.EOr: {0, -1, "", ""}, api.ESet: {0, -1, "", ""}, api.ETuple: {0, -1, "", ""},
	api.EProduct: {2, -1, "", ""},
	api.EAll:     {1, 1, "N", "i"}, api.EExists: {1, 1, "N", "i"}, api.EMap: {1, 1, "N", "N"}, api.EFun: {1, 1, "N", "N"},
	api.EChoose: {2, 2, "", "1"}, api.EFilter: {2, 2, "", "1"}, api.ELet: {2, 2, "", "1"}, api.EExcept: {3, 3, "", "1"},
	api.ERecord: {0, 0, "S", ""}, api.ERecSet: {0, 0, "S", ""}, api.EField: {1, 1, "S", ""},
	api.ECase: {2, -1, "N", ""}, api.EPrim: {2, 2, "N", ""}, api.EClass: {0, 0, "N", ""},
	api.ECall: {0, 0, "N", ""}, api.EBoundOp: {0, 0, "N", ""},
	api.EOper: {0, 0, "N", ""}, api.ELambda: {1, 1, "N", "N"}, api.EBoundArg: {0, 0, "N", ""},
}

// rowOf returns the row of a node. The number of elements that hangs on a definition or an operator is given.
func rowOf(e api.Expr, given int) (row, bool) {
	r, has := rows[e.Kind]
	switch e.Kind {
	case api.EAll, api.EExists, api.EMap, api.EFun, api.ECase:
		r.least, r.most = r.least+e.N, r.most+e.N
		if e.Kind == api.ECase {
			r.most = -1
		}
	case api.ERecord, api.ERecSet:
		r.least, r.most = len(e.S), len(e.S)
	case api.ECall, api.EBoundOp:
		r.least, r.most = given, given
	case api.EPrim:
		if slices.Contains([]int{api.PNeg, api.PLen, api.PHead, api.PTail, api.PCard}, e.N) {
			r.least, r.most = 1, 1
		} else if e.N == api.PSubSeq {
			r.least, r.most = 3, 3
		}
	case api.EClass:
		if e.N == api.ClSeq {
			r.least, r.most = 1, 1
		}
	}
	return r, has
}

// moreOf returns how many more values an element of a node sees.
func moreOf(e api.Expr, i int) int {
	r, _ := rowOf(e, 0)
	last := i == len(e.L)-1
	switch {
	case r.sees == "i":
		return i
	case r.sees == "N" && last:
		return e.N
	case r.sees == "1" && last:
		return 1
	}
	return 0
}

// refWhere is Where, within the body of a definition or (-1) outside.
func refWhere(sp api.Spec, within int, e api.Expr, scope []int, arity int) ([]int, bool) {
	if !refRight(sp, within, e, scope, arity) {
		return nil, true
	}
	for i, f := range e.L {
		wanted := 0
		if e.Kind == api.ECall {
			wanted = sp.Defs[e.N].Params[i]
		}
		if p, found := refWhere(sp, within, f, slices.Concat(scope, make([]int, moreOf(e, i))), wanted); found {
			return append([]int{i}, p...), true
		}
	}
	return nil, false
}

// refRight reports whether a node is as it has to be. An operator has 1 to 8 values: where one of another arity is wanted, nothing is right.
func refRight(sp api.Spec, within int, e api.Expr, scope []int, arity int) bool {
	if arity < 0 || 8 < arity {
		return false
	}
	in := func(n int) bool { return 0 <= e.N && e.N < n }
	callable := func() bool {
		return in(len(sp.Defs)) && (within < 0 || e.N < within || sp.Defs[e.N].Rec && sp.Defs[within].Rec)
	}
	given, right := 0, true
	switch e.Kind {
	case api.ELit:
		right = refModels(sp, e.V)
	case api.EVar:
		right = in(len(sp.Vars))
	case api.EConst:
		right = in(len(sp.Consts))
	case api.EBound:
		right = in(len(scope)) && scope[e.N] == 0
	case api.EBoundOp:
		if right = in(len(scope)) && scope[e.N] > 0; right {
			given = scope[e.N]
		}
	case api.EBoundArg:
		right = in(len(scope)) && scope[e.N] > 0 && scope[e.N] == arity
	case api.ECall:
		if right = callable(); right {
			given = len(sp.Defs[e.N].Params)
		}
	case api.EOper:
		right = callable() && arity > 0 && slices.Equal(sp.Defs[e.N].Params, make([]int, arity))
	case api.ELambda:
		right = e.N == arity && 1 <= e.N && e.N <= 8
	case api.EAll, api.EExists, api.EMap, api.EFun:
		right = 1 <= e.N && e.N <= 8
	case api.ECase:
		right = (e.N == 0 || e.N == 1) && len(e.L)%2 == e.N
	case api.EPrim:
		right = 1 <= e.N && e.N <= 19
	case api.EClass:
		right = 1 <= e.N && e.N <= 4
	case api.EField:
		right = len(e.S) == 1 && refName(e.S[0])
	case api.ERecord, api.ERecSet:
		right = len(e.S) > 0 && slices.IsSorted(e.S) && len(slices.Compact(slices.Clone(e.S))) == len(e.S) && !slices.ContainsFunc(e.S, func(s string) bool { return !refName(s) })
	}
	if !right {
		return false
	}
	operator := e.Kind == api.EOper || e.Kind == api.ELambda || e.Kind == api.EBoundArg
	r, has := rowOf(e, given)
	return has && operator == (arity > 0) && r.least <= len(e.L) && (r.most < 0 || len(e.L) <= r.most) &&
		(r.fields == "N" || e.N == 0) && (r.fields == "S" || len(e.S) == 0) && (r.fields == "V" || refZero(e.V)) &&
		len(scope)+moreOf(e, len(e.L)-1) <= 40
}

func refZero(v api.Val) bool {
	return v.Kind == 0 && v.N == 0 && !v.I.Neg && len(v.I.D) == 0 && v.S == "" && len(v.L) == 0 && len(v.M) == 0
}

func refModels(sp api.Spec, v api.Val) bool {
	right := v.Kind != api.VModel || slices.Contains(sp.Models, v.S)
	for _, w := range slices.Concat(v.L, v.M) {
		right = right && refModels(sp, w)
	}
	return right
}

func refName(s string) bool {
	for i, r := range []byte(s) {
		letter := 'A' <= r && r <= 'Z' || 'a' <= r && r <= 'z'
		if !letter && (i == 0 || r != '_' && (r < '0' || r > '9')) {
			return false
		}
	}
	return s != "" && len(s) <= 40 && s != "TRUE" && s != "FALSE"
}

// reference knows the levels of the definitions.
type reference struct {
	sp   api.Spec
	base []int
	most [][]int
}

// rooted is an expression in a scope, whose nodes have paths.
type rooted struct {
	*reference
	root  api.Expr
	bound int
	known map[string]int // levels that were found, by path
}

func (r *reference) rooted(e api.Expr, bound int) *rooted {
	return &rooted{r, e, bound, map[string]int{}}
}

func (r *reference) body(i int) *rooted {
	return r.rooted(r.sp.Defs[i].Body, len(r.sp.Defs[i].Params))
}

func newReference(sp api.Spec) *reference {
	r := &reference{sp: sp}
	for _, d := range sp.Defs {
		r.base = append(r.base, 0)
		r.most = append(r.most, slices.Repeat([]int{2}, len(d.Params)))
	}
	for again := true; again; {
		again = false
		for i, d := range sp.Defs {
			body := r.body(i)
			if n := body.levelAt(nil, 0); n != r.base[i] {
				r.base[i], again = n, true
			}
			for _, p := range paths(d.Body) {
				n := at(d.Body, p)
				if (n.Kind == api.EBound || n.Kind == api.EBoundOp || n.Kind == api.EBoundArg) && n.N < len(d.Params) {
					if top := body.allowedAt(p, 0); top < r.most[i][n.N] {
						r.most[i][n.N], again = top, true
					}
				}
			}
		}
	}
	return r
}

// sizeAt returns how many variables are in scope at a path.
func (r *rooted) sizeAt(path []int) int {
	n, e := r.bound, r.root
	for _, i := range path {
		n += moreOf(e, i)
		e = e.L[i]
	}
	return n
}

// binderOf returns the path of the node that binds the variable at a path, and false if it is one of the scope.
func (r *rooted) binderOf(path []int) ([]int, bool) {
	n := at(r.root, path).N
	for j := range path {
		if r.sizeAt(path[:j]) <= n && n < r.sizeAt(path[:j+1]) {
			return path[:j], true
		}
	}
	return nil, false
}

func further(path []int, i int) []int { return append(slices.Clone(path), i) }

// levelAt returns the level of the node at a path, where the values of an ELambda have this level.
func (r *rooted) levelAt(path []int, lambda int) int {
	key := fmt.Sprint(path, lambda)
	if n, is := r.known[key]; is {
		return n
	}
	n := r.findLevelAt(path, lambda)
	r.known[key] = n
	return n
}

func (r *rooted) findLevelAt(path []int, lambda int) int {
	n, most := at(r.root, path), 0
	for i := range n.L {
		most = max(most, r.levelAt(further(path, i), lambda))
	}
	switch n.Kind {
	case api.EVar, api.EEnabled:
		return 1
	case api.EPrime, api.EUnchanged, api.ECompose:
		return 2
	case api.ECall, api.EOper:
		return max(most, r.base[n.N])
	case api.EBound:
		if q, is := r.binderOf(path); is {
			switch at(r.root, q).Kind {
			case api.ELambda:
				return lambda
			case api.ELet:
				return r.levelAt(further(q, 0), lambda)
			case api.EExcept:
				return max(r.levelAt(further(q, 0), lambda), r.levelAt(further(q, 1), lambda))
			}
		}
		return 0
	}
	return most
}

// capAt returns what the nodes around a path, from a number of steps on, allow for what is bound outside.
func (r *rooted) capAt(path []int, from int) int {
	top := 2
	for j := from; j < len(path); j++ {
		switch n := at(r.root, path[:j]); {
		case n.Kind == api.EPrime, n.Kind == api.EUnchanged, n.Kind == api.ECompose && path[j] == 1:
			top = 0
		case n.Kind == api.EEnabled, n.Kind == api.ECompose:
			top = min(top, 1)
		case n.Kind == api.ECall:
			top = min(top, r.most[n.N][path[j]])
		}
	}
	return top
}

// allowedAt returns what is allowed for a parameter that occurs at a path: by the nodes around it, and by what is bound to what it occurs in.
func (r *rooted) allowedAt(path []int, from int) int {
	top := r.capAt(path, from)
	for j := from; j < len(path); j++ {
		q := path[:j]
		n := at(r.root, q)
		if (n.Kind != api.ELet && n.Kind != api.EExcept) || path[j] == len(n.L)-1 {
			continue
		}
		within := further(q, len(n.L)-1)
		for _, p := range paths(at(r.root, within)) {
			o := slices.Concat(within, p)
			if f := at(r.root, o); f.Kind == api.EBound && f.N == r.sizeAt(q) {
				top = min(top, r.allowedAt(o, len(within)))
			}
		}
	}
	return top
}

// misplaced returns the first misplaced node.
func (r *rooted) misplaced() (api.Misplace, bool) {
	for _, p := range paths(r.root) {
		n, has, allows := at(r.root, p), r.levelAt(p, 0), 2
		if len(p) > 0 {
			switch up := at(r.root, p[:len(p)-1]); up.Kind {
			case api.EPrime, api.EUnchanged:
				allows = 1
			case api.ECall:
				allows = r.most[up.N][p[len(p)-1]]
			}
		}
		if q, is := r.binderOf(p); n.Kind == api.EBound && is {
			if k := at(r.root, q).Kind; k == api.ELet || k == api.EExcept || k == api.ELambda {
				top := r.capAt(p, len(q)+1)
				allows = min(allows, top)
				if held := r.levelAt(p, 2); held > top {
					has = held
				}
			}
		}
		if has > allows {
			return api.Misplace{Path: p, Has: has, Allows: allows}, true
		}
		if n.Kind == api.EOper && slices.Min(r.most[n.N]) < 2 {
			return api.Misplace{Path: p, Has: 2, Allows: slices.Min(r.most[n.N])}, true
		}
	}
	return api.Misplace{}, false
}

// of is Of.
func (r *reference) of(e api.Expr, bound int) (int, api.Misplace, api.Errno) {
	if m, is := r.rooted(e, bound).misplaced(); is {
		return 0, m, api.ErrLevel
	}
	for _, d := range refReads(r.sp, e).Defs {
		if _, is := r.body(d).misplaced(); is {
			return 0, api.Misplace{}, api.ErrLevel
		}
	}
	return r.rooted(e, bound).levelAt(nil, 0), api.Misplace{}, api.OK
}

// set is a set of numbers.
type set map[int]bool

func (s set) add(l ...set) {
	for _, m := range l {
		maps.Copy(s, m)
	}
}

// read are the sets of what an expression reads now, then, of its constants, and of what it calls.
type read [4]set

// refReads is Reads: the sets of bodies grow until nothing is new, and those of an expression are made of those of its elements.
func refReads(sp api.Spec, e api.Expr) api.Uses {
	bodies := make([]read, len(sp.Defs))
	size := func() (n int) {
		for _, r := range bodies {
			for _, s := range r {
				n += len(s)
			}
		}
		return n
	}
	for before := -1; size() > before; {
		before = size()
		for i, d := range sp.Defs {
			bodies[i] = readOf(bodies, d.Body)
		}
	}
	r := readOf(bodies, e)
	keys := func(m set) []int { return slices.Sorted(maps.Keys(m)) }
	return api.Uses{Now: keys(r[0]), Then: keys(r[1]), Consts: keys(r[2]), Defs: keys(r[3])}
}

// readOf returns the sets of an expression, where those of the bodies are given.
func readOf(bodies []read, e api.Expr) read {
	all := read{{}, {}, {}, {}}
	for i, f := range e.L {
		r := readOf(bodies, f)
		all[2].add(r[2])
		all[3].add(r[3])
		switch {
		case e.Kind == api.EPrime:
			all[1].add(r[0])
		case e.Kind == api.EUnchanged:
			all[0].add(r[0])
			all[1].add(r[0])
		case e.Kind == api.EEnabled, e.Kind == api.ECompose && i == 0:
			all[0].add(r[0])
		case e.Kind == api.ECompose:
			all[1].add(r[1])
		default:
			all[0].add(r[0])
			all[1].add(r[1])
		}
	}
	switch e.Kind {
	case api.EVar:
		all[0][e.N] = true
	case api.EConst:
		all[2][e.N] = true
	case api.ECall, api.EOper:
		all[3][e.N] = true
		for i, s := range bodies[e.N] {
			all[i].add(s)
		}
	}
	return all
}

// term is an expression whose variables have names, each binder others.
type term struct {
	e     api.Expr // without its elements
	name  string   // of an EBound, EBoundOp, EBoundArg
	names []string // that the node binds
	l     []*term
}

// beta is the kind of a term that applies an ELambda, its first element, to the others.
const beta = -1

// terms makes terms.
type terms struct {
	sp    api.Spec
	made  int // names that were made
	calls int // that were worked out
	nodes int // of terms that were made
	rec   bool
}

// tooMuch ends the work of a reference that makes more terms than a test can wait for.
type tooMuch struct{}

func (t *terms) fresh(n int) []string {
	var l []string
	for range n {
		t.made++
		l = append(l, "v"+strconv.Itoa(t.made))
	}
	return l
}

// named returns the term of an expression in a scope of names.
func (t *terms) named(e api.Expr, scope []string) *term {
	m := &term{e: e}
	m.e.L = nil
	if e.Kind == api.EBound || e.Kind == api.EBoundOp || e.Kind == api.EBoundArg {
		m.name = scope[e.N]
	}
	if len(e.L) > 0 {
		m.names = t.fresh(moreOf(e, len(e.L)-1))
	}
	for i, f := range e.L {
		m.l = append(m.l, t.named(f, slices.Concat(scope, m.names[:moreOf(e, i)])))
	}
	return m
}

// numbered returns the expression of a term in a scope of names.
func (m *term) numbered(scope []string) api.Expr {
	e := m.e
	if m.name != "" {
		e.N = slices.Index(scope, m.name)
	}
	e.L = make([]api.Expr, len(m.l))
	for i, f := range m.l {
		e.L[i] = f.numbered(slices.Concat(scope, m.names[:moreOf(e, i)]))
	}
	return e
}

// put returns a copy of a term, with new names in its binders, and with terms in the place of names.
func (t *terms) put(m *term, in map[string]*term) *term {
	if t.nodes++; t.nodes > 200000 {
		panic(tooMuch{})
	}
	n := &term{e: m.e, name: m.name, names: t.fresh(len(m.names))}
	in = maps.Clone(in)
	for i, old := range m.names {
		in[old] = &term{e: b(0), name: n.names[i]}
	}
	for _, f := range m.l {
		n.l = append(n.l, t.put(f, in))
	}
	f, is := in[m.name]
	if m.name == "" || !is {
		return n
	}
	if m.e.Kind != api.EBoundOp {
		return t.put(f, map[string]*term{})
	}
	switch f.e.Kind {
	case api.EOper:
		n.e, n.name = call(f.e.N), ""
	case api.ELambda:
		n.e, n.name, n.l = ex(beta), "", append([]*term{t.put(f, map[string]*term{})}, n.l...)
	case api.EBoundArg:
		n.name = f.name
	}
	return n
}

// inlined returns a term with all calls worked out.
func (t *terms) inlined(m *term) *term {
	switch m.e.Kind {
	case beta:
		t.calls++
		in := map[string]*term{}
		for i, name := range m.l[0].names {
			in[name] = m.l[i+1]
		}
		return t.inlined(t.put(m.l[0].l[0], in))
	case api.ECall:
		d := t.sp.Defs[m.e.N]
		if d.Rec {
			t.rec = true
			return m
		}
		t.calls++
		names, in := t.fresh(len(d.Params)), map[string]*term{}
		for i, name := range names {
			in[name] = m.l[i]
		}
		return t.inlined(t.put(t.named(d.Body, names), in))
	}
	n := *m
	n.l = nil
	for _, f := range m.l {
		n.l = append(n.l, t.inlined(f))
	}
	return &n
}

// refInline is Inline, without its limits: it returns also how many calls are worked out, and whether a recursive definition is called; there is no result if that takes too long.
func refInline(sp api.Spec, e api.Expr, bound int) (result api.Expr, calls int, rec, is bool) {
	t := &terms{sp: sp}
	defer func() {
		if _, too := recover().(tooMuch); too {
			is = false
		}
	}()
	scope := t.fresh(bound)
	m := t.inlined(t.named(e, scope))
	if t.rec {
		return api.Expr{}, t.calls, true, true
	}
	return m.numbered(scope), t.calls, false, true
}

// refSubst is Subst, without its errors.
func refSubst(e api.Expr, bound, from int, l []api.Expr) api.Expr {
	t := &terms{}
	scope := t.fresh(bound)
	in := map[string]*term{}
	for i, f := range l {
		in[scope[from+i]] = t.named(f, scope[:from])
	}
	return t.put(t.named(e, scope), in).numbered(slices.Concat(scope[:from], scope[from+len(l):]))
}
