package level

import (
	"slices"

	"foregone/api"
)

// grade is the level of something: as a node has it, and as it counts where it is asked what ELet and EExcept bind (there the values of an ELambda have the level LvAction).
type grade struct{ own, held int }

func even(level int) grade { return grade{level, level} }

func (g grade) with(h grade) grade { return grade{max(g.own, h.own), max(g.held, h.held)} }

// graded is the grade of a node, and those of its elements.
type graded struct {
	grade
	l []graded
}

// knowledge is what is known of the definitions of a specification.
type knowledge struct {
	sp     api.Spec
	levels []api.Level
}

// learn finds the levels of all definitions: of recursive ones the least Base and the greatest Most for which the rules are kept.
func learn(sp api.Spec) *knowledge {
	k := &knowledge{sp: sp}
	for _, d := range sp.Defs {
		most := slices.Repeat([]int{api.LvAction}, len(d.Params))
		k.levels = append(k.levels, api.Level{Base: api.LvConst, Most: most})
	}
	for again := true; again; {
		again = false
		for i := range sp.Defs {
			if k.learnBody(i) {
				again = true
			}
		}
	}
	return k
}

// learnBody finds the levels of a definition as far as those of the others are known, and reports whether they are other ones than before.
func (k *knowledge) learnBody(i int) bool {
	d, before := k.sp.Defs[i], k.levels[i]
	now := api.Level{Base: k.graded(d.Body, make([]grade, len(d.Params))).own, Most: slices.Clone(before.Most)}
	for p, top := range k.tops(d.Body, len(d.Params)) {
		now.Most[p] = top
	}
	k.levels[i] = now
	return now.Base != before.Base || !slices.Equal(now.Most, before.Most)
}

// graded returns the grades of an expression and all of its parts in a scope.
func (k *knowledge) graded(e api.Expr, scope []grade) graded {
	var of func(e api.Expr, scope []grade) graded
	of = func(e api.Expr, scope []grade) graded {
		var g graded
		for i, x := range e.L {
			inner := append(slices.Clip(scope), boundBy(e, g.l, i)...)
			g.l = append(g.l, of(x, inner))
			g.grade = g.with(g.l[i].grade)
		}
		g.grade = k.gradeOf(e, scope, g.grade)
		return g
	}
	return of(e, scope)
}

// gradeOf returns the grade of a node with elements of this grade.
func (k *knowledge) gradeOf(e api.Expr, scope []grade, elements grade) grade {
	switch e.Kind {
	case api.EVar, api.EEnabled:
		return even(api.LvState)
	case api.EPrime, api.EUnchanged, api.ECompose:
		return even(api.LvAction)
	case api.EBound:
		return scope[e.N]
	case api.ECall, api.EOper:
		return elements.with(even(k.levels[e.N].Base))
	}
	return elements
}

// boundBy returns the grades of what an element of a node sees besides, where those of the elements ahead of it are known.
func boundBy(e api.Expr, ahead []graded, i int) []grade {
	l := make([]grade, sees(e, i))
	if len(l) == 0 {
		return l
	}
	switch e.Kind {
	case api.ELet:
		l[0] = ahead[0].grade
	case api.EExcept:
		l[0] = ahead[0].with(ahead[1].grade)
	case api.ELambda:
		for n := range l {
			l[n] = grade{api.LvConst, api.LvAction}
		}
	}
	return l
}
