package level

import "foregone/api"

// As what a variable counts that is read: in the present state, in the next one, or both.
const (
	asNow  = 1
	asThen = 2
)

// mode says, for a place in an expression, as what counts that which is read there now, and that which is read there then.
type mode struct{ now, then int }

// within returns the mode of an element of a node.
func (m mode) within(e api.Expr, i int) mode {
	switch {
	case e.Kind == api.EPrime:
		return mode{now: m.then}
	case e.Kind == api.EUnchanged:
		return mode{now: m.now | m.then}
	case e.Kind == api.EEnabled || e.Kind == api.ECompose && i == 0:
		return mode{now: m.now}
	case e.Kind == api.ECompose:
		return mode{then: m.then}
	}
	return m
}

// visit is a body that is gone through in a mode: once is enough.
type visit struct {
	def int
	mode
}

// uses are what an expression reads and calls.
type uses struct{ now, then, consts, defs map[int]bool }

// usesOf finds what an expression reads and calls, in the bodies of definitions, too.
func usesOf(defs []api.Def, e api.Expr) uses {
	u := uses{map[int]bool{}, map[int]bool{}, map[int]bool{}, map[int]bool{}}
	visited := map[visit]bool{}
	var read func(e api.Expr, m mode)
	read = func(e api.Expr, m mode) {
		switch e.Kind {
		case api.EVar:
			if m.now&asNow != 0 {
				u.now[e.N] = true
			}
			if m.now&asThen != 0 {
				u.then[e.N] = true
			}
		case api.EConst:
			u.consts[e.N] = true
		case api.ECall, api.EOper:
			u.defs[e.N] = true
			if v := (visit{e.N, m}); !visited[v] {
				visited[v] = true
				read(defs[e.N].Body, m)
			}
		}
		for i, x := range e.L {
			read(x, m.within(e, i))
		}
	}
	read(e, mode{asNow, asThen})
	return u
}
