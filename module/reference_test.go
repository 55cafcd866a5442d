package module_test

import (
	"encoding/hex"
	"fmt"
	"slices"
	"strings"

	"foregone/api"
	"foregone/parse"
)

// A second way to flat modules: forms are made one behind the other, as whole trees, whose names are replaced by tables.

// refUnit is a unit of a flat form. An instance itself is one, too, with its duties as elements.
type refUnit struct {
	n      api.Node
	local  bool
	id     string
	origin api.Spot
	was    string
	inst   *refInst
}

type refInst struct {
	of     string
	params []api.Node
	alone  bool
}

// refForm is a flat form. What names mean is told by the number of arguments: -1 is an instance, parameters have 1000 more.
type refForm struct {
	name   string
	units  []refUnit
	sees   map[string]int
	locals map[string]bool
	insts  map[string]*refInst
	hidden map[string]bool
	flat   map[string]bool
	ids    map[string]string
}

const refParameter = 1000

type refError struct {
	spot api.Spot
	e    api.Errno
}

type reference struct {
	trees map[string]api.Node
	forms map[string]*refForm
	now   *refForm
}

// refName is what a name is replaced by, with arguments ahead of its own.
type refName struct {
	name  string
	ahead []api.Node
}

func refPlain(s string) string {
	if parse.Definable(s) {
		return "x" + hex.EncodeToString([]byte(s))
	}
	return s
}

func refNames(l []api.Node) []string {
	var names []string
	for _, n := range l {
		switch n.Kind {
		case api.NdBind:
			for _, x := range n.L[:len(n.L)-1] {
				names = append(names, x.S)
			}
		default:
			names = append(names, n.S)
		}
	}
	return names
}

// refKids returns a node whose elements, in the order of the text, are replaced by what f says, with the names that are bound there.
func refKids(n api.Node, bound []string, f func(n api.Node, bound []string) api.Node) api.Node {
	last := len(n.L) - 1
	l := slices.Clone(n.L)
	do := func(i int, bound []string) { l[i] = f(n.L[i], bound) }
	with := func(names []string) []string { return slices.Concat(bound, names) }
	switch n.Kind {
	case api.NdQuant, api.NdFun, api.NdChoose, api.NdFilter, api.NdFunDef, api.NdLambda, api.NdDefine:
		for i := range last {
			do(i, bound)
		}
		do(last, with(refNames(n.L[:last])))
	case api.NdMap:
		do(0, with(refNames(n.L[1:])))
		for i := 1; i <= last; i++ {
			do(i, bound)
		}
	case api.NdLet:
		for i := range n.L {
			do(i, with(refNames(n.L[:i])))
		}
	case api.NdBind:
		do(last, bound)
	default:
		for i := range n.L {
			do(i, bound)
		}
	}
	n.L = l
	return n
}

func refCall(n api.Node, name string, args []api.Node) api.Node {
	kind := api.NdName
	if len(args) > 0 {
		kind = api.NdCall
	}
	return api.Node{Kind: kind, S: name, L: args, At: n.At, End: n.End}
}

// refRename replaces names that are not bound.
func refRename(n api.Node, bound []string, table map[string]refName) api.Node {
	n = refKids(n, bound, func(n api.Node, bound []string) api.Node { return refRename(n, bound, table) })
	to, ok := table[n.S]
	if !ok || slices.Contains(bound, n.S) {
		return n
	}
	switch n.Kind {
	case api.NdName, api.NdCall:
		return refCall(n, to.name, slices.Concat(to.ahead, n.L))
	case api.NdInfix, api.NdSign:
		if to.name != n.S {
			return refCall(n, to.name, slices.Concat(to.ahead, n.L))
		}
	}
	return n
}

func (r *reference) fail(n api.Node, e api.Errno) {
	panic(refError{api.Spot{Module: r.now.name, At: n.At}, e})
}

// own replaces NdQual in a tree of the module, and finds what means nothing.
func (r *reference) own(n api.Node, bound []string) api.Node {
	isSign := (n.Kind == api.NdInfix || n.Kind == api.NdSign) && parse.Definable(n.S)
	look := func() {
		args, ok := r.now.sees[n.S]
		isLanguage := slices.Contains(strings.Fields("Int Nat Seq Len Head Tail Append SubSeq Cardinality"), n.S)
		if !slices.Contains(bound, n.S) && (!ok && !isLanguage || args == -1) {
			r.fail(n, api.ErrUnknown)
		}
	}
	if n.Kind == api.NdName || n.Kind == api.NdCall {
		look()
	}
	if n.Kind == api.NdQual {
		return r.qual(n, bound)
	}
	n = refKids(n, bound, r.own)
	if isSign {
		look()
	}
	return n
}

func (r *reference) qual(n api.Node, bound []string) api.Node {
	var names []string
	var args []api.Node
	f := r.now
	for i, p := range n.L {
		names = append(names, p.S)
		if i == len(n.L)-1 {
			if count, ok := f.sees[p.S]; !ok || count < 0 || count >= refParameter {
				r.fail(p, api.ErrUnknown)
			}
			if f.locals[p.S] {
				r.fail(p, api.ErrLocal)
			}
		} else {
			inst := f.insts[p.S]
			if inst == nil && !f.hidden[p.S] {
				r.fail(p, api.ErrUnknown)
			}
			if inst == nil || i > 0 && f.locals[p.S] {
				r.fail(p, api.ErrLocal)
			}
			if len(p.L) != len(inst.params) {
				r.fail(p, api.ErrPath)
			}
			f = r.forms[inst.of]
		}
		for _, a := range p.L {
			args = append(args, r.own(a, bound))
		}
	}
	return refCall(n, strings.Join(names, "!"), args)
}

// declare declares the names of a unit of the form.
func (r *reference) declare(at api.Node, name string, args int, local bool) {
	_, isSeen := r.now.sees[name]
	language := slices.Contains(strings.Fields("Int Nat Seq Len Head Tail Append SubSeq Cardinality"), name)
	if isSeen || r.now.flat[name] || language {
		r.fail(at, api.ErrDouble)
	}
	if strings.Contains(name, "!") {
		r.now.flat[name] = true
		return
	}
	r.now.sees[name], r.now.locals[name] = args, local
}

// take adds a unit that comes from elsewhere.
func (r *reference) take(u refUnit, at api.Node) {
	var names []string
	switch u.n.Kind {
	case api.NdDefine, api.NdFunDef:
		names = []string{u.n.S}
	case api.NdRecursive:
		names = refNames(u.n.L)
	}
	for _, s := range names {
		if len(s) > 40 {
			r.fail(at, api.ErrLimit)
		}
	}
	switch u.n.Kind {
	case api.NdConstants, api.NdVariables:
		for _, d := range u.n.L {
			r.declare(at, d.S, refParameter+d.N, false)
		}
	case api.NdDefine:
		r.declare(at, u.n.S, len(u.n.L)-1, u.local)
	case api.NdFunDef:
		r.declare(at, u.n.S, 0, u.local)
	case api.NdInstance:
		if u.inst.alone {
			break
		}
		if u.local {
			r.now.hidden[u.was] = true
			break
		}
		r.declare(at, u.was, -1, false)
		r.now.insts[u.was] = u.inst
	}
	r.now.ids[u.id] = u.n.S
	r.now.units = append(r.now.units, u)
}

func isRefDefinition(u refUnit) bool { return u.n.Kind == api.NdDefine || u.n.Kind == api.NdFunDef }

// form returns the flat form of a module.
func (r *reference) form(name string) *refForm {
	if f := r.forms[name]; f != nil {
		return f
	}
	m := r.trees[name]
	var used []string
	for _, u := range m.L {
		switch {
		case u.Kind == api.NdExtends:
			used = append(used, refNames(u.L)...)
		case u.Kind == api.NdInstance:
			used = append(used, u.S)
		case u.Kind == api.NdDefine && u.L[len(u.L)-1].Kind == api.NdInstance:
			used = append(used, u.L[len(u.L)-1].S)
		}
	}
	for _, s := range used {
		r.form(s)
	}
	f := &refForm{name: name, sees: map[string]int{}, locals: map[string]bool{}, insts: map[string]*refInst{}, hidden: map[string]bool{}, flat: map[string]bool{}, ids: map[string]string{}}
	r.now = f
	awaited := map[string]bool{}
	for i, u := range m.L {
		r.unit(m, u, i, awaited)
	}
	r.forms[name] = f
	return f
}

func (r *reference) unit(m, u api.Node, i int, awaited map[string]bool) {
	last := len(u.L) - 1
	unit := refUnit{n: u, local: u.N == 1, id: fmt.Sprint(m.S, " ", i), origin: api.Spot{Module: m.S, At: u.At}, was: u.S}
	switch u.Kind {
	case api.NdExtends:
		for _, e := range u.L {
			r.extend(e)
		}
		return
	case api.NdConstants, api.NdVariables:
		for k, d := range u.L {
			r.declare(d, d.S, refParameter, false)
			delete(r.now.sees, d.S)
			u.L = slices.Clone(u.L)
			u.L[k] = refKids(d, nil, r.own)
			r.now.sees[d.S] = refParameter + d.N
		}
		unit.n = u
	case api.NdAssume, api.NdTheorem:
		unit.n = refKids(u, nil, r.own)
		if u.Kind == api.NdTheorem {
			return
		}
	case api.NdRecursive:
		for _, d := range u.L {
			_, isSeen := r.now.sees[d.S]
			isBehind := slices.ContainsFunc(m.L[i+1:], func(x api.Node) bool {
				return x.Kind == api.NdDefine && x.S == d.S && x.L[len(x.L)-1].Kind != api.NdInstance
			})
			if !isSeen && isBehind {
				r.declare(d, d.S, d.N, false)
				awaited[d.S] = true
			}
		}
	case api.NdInstance:
		r.instance(u, nil, u.S, true, u.N == 1, unit.id)
		return
	case api.NdDefine, api.NdFunDef:
		if u.L[last].Kind == api.NdInstance {
			r.instance(u.L[last], u.L[:last], u.S, false, u.N == 1, unit.id)
			return
		}
		args := last
		if u.Kind == api.NdFunDef {
			args = 0
		}
		isAwaited := u.Kind == api.NdDefine && awaited[u.S]
		if !isAwaited {
			r.declare(u, u.S, args, u.N == 1)
			delete(r.now.sees, u.S)
		}
		unit.n = refKids(u, nil, r.own)
		awaited[u.S] = false
		r.now.sees[u.S], r.now.locals[u.S] = args, u.N == 1
	}
	r.now.ids[unit.id] = unit.n.S
	r.now.units = append(r.now.units, unit)
}

// extend adds the units of an extended module.
func (r *reference) extend(e api.Node) {
	x := r.forms[e.S]
	table := map[string]refName{}
	for _, u := range x.units {
		if !isRefDefinition(u) || !u.local {
			continue
		}
		name, isThere := r.now.ids[u.id]
		if !isThere {
			name = e.S + "!" + refPlain(u.n.S)
		}
		table[u.n.S] = refName{name: name}
	}
	for _, u := range x.units {
		if _, isThere := r.now.ids[u.id]; isThere {
			continue
		}
		var params []string
		if u.inst != nil {
			params = refNames(u.inst.params)
		}
		s := u.n.S
		u.n = refRename(u.n, params, table)
		if to, ok := table[s]; ok && isRefDefinition(u) {
			u.n.S = to.name
		}
		if u.n.Kind == api.NdInstance && u.local {
			u.n.S = e.S + "!" + s
		}
		if u.n.Kind == api.NdRecursive {
			for k, d := range u.n.L {
				if to, ok := table[d.S]; ok {
					u.n.L[k].S = to.name
				}
			}
		}
		r.take(u, e)
	}
}

// instance adds the units of an instance.
func (r *reference) instance(n api.Node, params []api.Node, q string, alone, local bool, id string) {
	k := r.forms[n.S]
	if !alone {
		r.declare(n, q, -1, local)
		delete(r.now.sees, q)
	}
	inst := &refInst{n.S, params, alone}
	made := func(x api.Node) api.Node {
		x.At, x.End = n.At, n.End
		return x
	}
	var ahead []api.Node
	for _, p := range params {
		ahead = append(ahead, made(api.Node{Kind: api.NdName, S: p.S}))
	}
	table := map[string]refName{}
	var units []refUnit
	for _, s := range n.L {
		args, ok := k.sees[s.S]
		_, isDouble := table[s.S]
		arg := s.L[0]
		if !ok || args < refParameter || isDouble || arg.Kind == api.NdSign && args != refParameter+2 {
			r.fail(s, api.ErrSubst)
		}
		arg = r.own(arg, refNames(params))
		name := q + "!" + s.S
		table[s.S] = refName{name, ahead}
		d := made(api.Node{Kind: api.NdDefine, S: name, L: slices.Concat(params, r.body(n, s.L[0], arg, params, args-refParameter))})
		units = append(units, refUnit{n: d, local: local, id: id + " " + s.S, origin: api.Spot{Module: r.now.name, At: s.At}, was: s.S})
	}
	free := r.parameters(n, k, table)
	r.catch(n, k, params, free)
	kept := refUnit{n: api.Node{Kind: api.NdInstance, S: q}, local: local, id: id + " itself", was: q, inst: inst}
	for _, u := range k.units {
		if isRefDefinition(u) {
			name := u.n.S
			if !alone || u.local {
				name = q + "!" + refPlain(name)
			}
			table[u.n.S] = refName{name, ahead}
		}
	}
	for i, u := range k.units {
		if u.n.Kind == api.NdAssume {
			kept.n.L = append(kept.n.L, refRename(u.n.L[0], nil, table))
		}
		if !isRefDefinition(u) && u.n.Kind != api.NdRecursive {
			continue
		}
		to := table[u.n.S]
		was := u.n.S
		u.n = refRename(u.n, nil, table)
		u.id = fmt.Sprint(id, " ", i)
		u.local = u.local || local
		switch u.n.Kind {
		case api.NdDefine:
			u.n.S, u.n.L = to.name, slices.Concat(params, u.n.L)
		case api.NdFunDef:
			u.n.S = to.name
			if len(params) > 0 {
				parts := strings.Split(was, "!")
				d := u.n
				d.S, d.N = parts[len(parts)-1], 0
				let := made(api.Node{Kind: api.NdLet, L: []api.Node{d, made(api.Node{Kind: api.NdName, S: d.S})}})
				u.n = api.Node{Kind: api.NdDefine, S: to.name, L: slices.Concat(params, []api.Node{let}), At: d.At, End: d.End}
			}
		case api.NdRecursive:
			for i, d := range u.n.L {
				if to, ok := table[d.S]; ok && k.sees[d.S] < refParameter {
					u.n.L[i].S = to.name
				} else if !alone {
					u.n.L[i].S = q + "!" + d.S
				}
				u.n.L[i].N += len(params)
			}
		}
		units = append(units, u)
	}
	r.now.ids[kept.id] = ""
	r.now.units = append(r.now.units, kept)
	for _, u := range units {
		r.take(u, n)
	}
	if !alone {
		r.now.sees[q], r.now.locals[q], r.now.insts[q] = -1, local, inst
	}
}

// body returns the further parameters of the definition of a parameter that is replaced, and its body.
func (r *reference) body(n, raw, arg api.Node, params []api.Node, args int) []api.Node {
	isOperator := args > 0 && (raw.Kind == api.NdName || raw.Kind == api.NdQual || raw.Kind == api.NdSign)
	if raw.Kind == api.NdLambda {
		return arg.L
	}
	if !isOperator {
		return []api.Node{arg}
	}
	for tail := ""; ; tail += "_" {
		var decls, names []api.Node
		isFree := true
		for i := range args {
			s := fmt.Sprint("x", i+1, tail)
			_, isSeen := r.now.sees[s]
			isFree = isFree && !isSeen && !slices.Contains(refNames(params), s)
			decls = append(decls, api.Node{Kind: api.NdDecl, S: s, At: n.At, End: n.End})
			names = append(names, api.Node{Kind: api.NdName, S: s, At: n.At, End: n.End})
		}
		if !isFree {
			continue
		}
		body := api.Node{Kind: api.NdCall, S: arg.S, L: slices.Concat(arg.L, names), At: n.At, End: n.End}
		if arg.Kind == api.NdSign {
			body.Kind = api.NdInfix
		}
		return append(decls, body)
	}
}

// parameters looks for the parameters that are not replaced, and returns their names.
func (r *reference) parameters(n api.Node, k *refForm, table map[string]refName) []string {
	var free []string
	for _, u := range k.units {
		if u.n.Kind != api.NdConstants && u.n.Kind != api.NdVariables {
			continue
		}
		for _, d := range u.n.L {
			if _, ok := table[d.S]; ok {
				continue
			}
			args, isSeen := r.now.sees[d.S]
			if !isSeen || args < 0 || args%refParameter != d.N {
				r.fail(n, api.ErrUnknown)
			}
			free = append(free, d.S)
		}
	}
	return free
}

// catch looks for names of parameters that mean something else within the definitions of an instance.
func (r *reference) catch(n api.Node, k *refForm, params []api.Node, free []string) {
	var bound []string
	var collect func(n api.Node)
	collect = func(n api.Node) {
		switch n.Kind {
		case api.NdDecl, api.NdBind:
			bound = append(bound, refNames([]api.Node{n})...)
		case api.NdLet:
			bound = append(bound, refNames(n.L[:len(n.L)-1])...)
		}
		for _, e := range n.L {
			collect(e)
		}
	}
	for _, u := range k.units {
		if isRefDefinition(u) || u.n.Kind == api.NdAssume {
			collect(u.n)
		}
	}
	for _, p := range params {
		language := strings.Fields("Int Nat Seq Len Head Tail Append SubSeq Cardinality")
		if slices.Contains(bound, p.S) || slices.Contains(free, p.S) || slices.Contains(language, p.S) {
			r.fail(n, api.ErrDouble)
		}
	}
}

// refFlat returns the flat form of the last one of some modules (which fit together), or the error.
func refFlat(l []api.Node) (f *refForm, left refError) {
	defer func() {
		if x := recover(); x != nil {
			f, left = nil, x.(refError)
		}
	}()
	r := &reference{trees: map[string]api.Node{}, forms: map[string]*refForm{}}
	for _, s := range []string{"Naturals", "Integers", "Sequences", "FiniteSets", "TLC"} {
		r.trees[s] = api.Node{S: s}
	}
	for _, m := range l {
		r.trees[m.S] = m
	}
	return r.form(l[len(l)-1].S), refError{}
}

// refModule returns the flat module of a form.
func refModule(f *refForm, m api.Node) api.Node {
	n := api.Node{Kind: api.NdModule, S: m.S, At: m.At, End: m.End}
	for _, u := range f.units {
		if u.n.Kind == api.NdInstance {
			continue
		}
		if isRefDefinition(u) {
			u.n.N = 0
		}
		n.L = append(n.L, u.n)
	}
	return n
}
