package show

import (
	"slices"

	"foregone/api"
)

// inside returns the surroundings of the element i of a node with surroundings of its own. They are empty where the element is read by itself.
func (s surroundings) inside(n api.Node, i int) surroundings {
	last := i == len(n.L)-1
	switch n.Kind {
	case api.NdSubst:
		return surroundings{begins: true}
	case api.NdPrefix, api.NdInfix, api.NdProduct, api.NdPrime, api.NdDot:
		return s.beside(n, i)
	case api.NdIndex:
		if i == 0 {
			return s.beside(n, i)
		}
	case api.NdFilter:
		if i == 0 {
			return surroundings{}.with(filterFrame(n))
		}
	case api.NdSquare, api.NdAngle:
		if last {
			return s.with(frame{node: withZeros(n, 2), at: []int{1}, ahead: true})
		}
	case api.NdFair:
		if i == 0 {
			return surroundings{}.with(frame{node: withZeros(n, 2), at: []int{0}, ahead: true})
		}
	case api.NdJunct:
		inner := surroundings{}
		if last {
			inner = s.afresh()
		}
		inner.signed = s.begins && i == 0
		return inner
	case api.NdCase:
		if !last {
			return surroundings{}.with(armFrame())
		}
		return s.afresh()
	case api.NdQuant, api.NdChoose, api.NdIf, api.NdLet:
		if last {
			return s.afresh()
		}
	case api.NdArm, api.NdBind:
		// The node around an arm, or a binder, has said what surrounds the last element of it.
		if last {
			return s
		}
	}
	return surroundings{}
}

// beside returns the surroundings of the element i of an operator.
func (s surroundings) beside(n api.Node, i int) surroundings {
	f := frame{node: withZeros(n, min(len(n.L), 2)), at: []int{min(i, 1)}, ahead: i > 0, behind: i < len(n.L)-1}
	switch n.Kind {
	case api.NdPrefix:
		f.ahead = true
	case api.NdPrime, api.NdDot, api.NdIndex:
		f.behind = true
	case api.NdProduct:
		if f.ahead && f.behind {
			f.node = withZeros(n, 3)
		}
	}
	inner := s.with(f)
	if n.Kind == api.NdPrefix {
		inner.signed = s.begins && n.S == "-"
	}
	return inner
}

// with returns the surroundings of an expression in a frame that stands in s.
func (s surroundings) with(f frame) surroundings {
	inner := s.without(f.ahead, f.behind)
	inner.frames = append(inner.frames, f)
	return inner
}

// afresh returns the surroundings of an expression with which a node in s ends, and which is read by itself up to there.
func (s surroundings) afresh() surroundings { return s.without(true, false) }

// without returns surroundings but for what stands ahead, or behind.
func (s surroundings) without(ahead, behind bool) surroundings {
	left := surroundings{begins: s.begins && !ahead, signed: s.signed && !ahead}
	for _, f := range s.frames {
		f.ahead = f.ahead && !ahead
		f.behind = f.behind && !behind
		if f.ahead || f.behind {
			left.frames = append(left.frames, f)
		}
	}
	return left
}

// withZeros returns a node like n that has just some elements, 0 all of them.
func withZeros(n api.Node, count int) api.Node {
	n.L = slices.Repeat([]api.Node{zero()}, count)
	return n
}

// filterFrame returns a filter like n, for the set that is filtered: it is read as the right operand of \in.
func filterFrame(n api.Node) frame {
	bind := n.L[0]
	return frame{node: api.Node{Kind: api.NdFilter, L: []api.Node{bind, zero()}}, at: []int{0, len(bind.L) - 1}, ahead: true}
}

// armFrame returns a CASE for what an arm has that is not the last one: another CASE, at the end of it, could take the further arms.
func armFrame() frame {
	arm := api.Node{Kind: api.NdArm, L: []api.Node{zero(), zero()}}
	return frame{node: api.Node{Kind: api.NdCase, L: []api.Node{arm, arm}}, at: []int{0, 1}, behind: true}
}
