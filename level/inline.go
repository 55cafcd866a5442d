package level

import (
	"slices"

	"foregone/api"
)

// inliner works out calls.
type inliner struct {
	budget
	defs    []api.Def
	tooDeep bool // a call stood within too many bodies
}

// place is where an expression is written: what its variables stand for, and within how many bodies it stands.
type place struct {
	scope  []binding
	bodies int
}

// binding is what a variable stands for: a variable of the result, or an argument with the place at which it was written.
type binding struct {
	number int
	e      api.Expr
	at     *place
}

// extended returns a scope with so many further variables of the result, which has so many already.
func extended(scope []binding, more, size int) []binding {
	scope = slices.Clip(scope)
	for i := range more {
		scope = append(scope, binding{number: size + i})
	}
	return scope
}

// whole returns an expression in a scope of so many values with all calls worked out.
func (w *inliner) whole(e api.Expr, bound int) api.Expr {
	return w.work(e, &place{scope: extended(nil, bound, 0)}, bound)
}

// work returns what an expression amounts to where so many variables of the result are in scope.
func (w *inliner) work(e api.Expr, at *place, size int) api.Expr {
	switch e.Kind {
	case api.EBound:
		b := at.scope[e.N]
		if b.at != nil {
			return w.work(b.e, b.at, size)
		}
		e.N = b.number
	case api.ECall:
		return w.call(e.N, arguments(e, at), at, size)
	case api.EBoundOp:
		return w.apply(at.scope[e.N], arguments(e, at), at, size)
	}
	w.spend()
	c := bare(e)
	for i, x := range e.L {
		more := sees(e, i)
		c.L[i] = w.work(x, &place{extended(at.scope, more, size), at.bodies}, size+more)
	}
	return c
}

// arguments returns what the elements of a call stand for. One that is a variable stands for what this stands for.
func arguments(e api.Expr, at *place) []binding {
	l := make([]binding, len(e.L))
	for i, x := range e.L {
		if x.Kind == api.EBound || x.Kind == api.EBoundArg {
			l[i] = at.scope[x.N]
		} else {
			l[i] = binding{e: x, at: at}
		}
	}
	return l
}

// call works out a call of a definition that stands at a place.
func (w *inliner) call(n int, l []binding, at *place, size int) api.Expr {
	d := w.defs[n]
	if d.Rec {
		panic(stopped{api.ErrRec})
	}
	return w.body(d.Body, l, at, size)
}

// apply works out a call of an operator that was handed over.
func (w *inliner) apply(op binding, l []binding, at *place, size int) api.Expr {
	if op.e.Kind == api.EOper {
		return w.call(op.e.N, l, at, size)
	}
	return w.body(op.e.L[0], slices.Concat(op.at.scope, l), at, size)
}

// body works out a body in the place of a call.
func (w *inliner) body(e api.Expr, scope []binding, at *place, size int) api.Expr {
	w.spend()
	if at.bodies >= api.MaxDefs {
		w.tooDeep = true
	}
	return w.work(e, &place{scope, at.bodies + 1}, size)
}
