package show_test

import (
	"slices"
	"testing"

	"foregone/api"
	"foregone/show"
)

// neededByDefinition follows the rule of the chapter word by word.
func neededByDefinition(t *testing.T, n api.Node) []bool {
	t.Helper()
	par := all(len(placesOf(t, n)), true)
	before := withOf(t, n, par)
	for i := range par {
		try := flip(par, i)
		text, e := show.With(n, try)
		isForced := text == before
		if e == api.OK && !isForced && isRead(text, n) {
			par, before = try, text
		}
	}
	return par
}

func compareNeeded(t *testing.T, seed uint64, n api.Node) {
	t.Helper()
	if len(placesOf(t, n)) > 40 {
		return
	}
	got, want := neededOf(t, n), neededByDefinition(t, n)
	if !slices.Equal(got, want) {
		text, _ := show.With(n, want)
		t.Fatalf("seed %d\n%s\nneeded: %v, want %v", seed, text, got, want)
	}
}

// P4.2
func TestNeededIsTheRule(t *testing.T) {
	for seed := range uint64(500) {
		m := newMaker(seed)
		compareNeeded(t, seed, m.any(2+m.IntN(3)))
	}
}

// P4.2: operators, and what ends with an expression, in each other.
func TestNeededOfOperators(t *testing.T) {
	for seed := range uint64(1000) {
		m := newMaker(seed)
		compareNeeded(t, seed, m.open(2+m.IntN(5)))
	}
}

// open makes an expression of operators, and of what ends with an expression.
func (m *maker) open(deep int) api.Node {
	if deep <= 1 || m.IntN(6) == 0 {
		return named("a")
	}
	deep--
	sub := func() api.Node { return m.open(deep) }
	switch m.IntN(15) {
	case 0, 1, 2, 3, 4:
		return nd(api.NdInfix, m.sign(), sub(), sub())
	case 5, 6:
		return nd(api.NdPrefix, m.pick("~", "ENABLED", "[]", "SUBSET", "DOMAIN", "-"), sub())
	case 7:
		return nd(api.NdPrime, "", sub())
	case 8:
		return nd(api.NdJunct, m.pick(`/\`, `\/`), m.some(1, sub)...)
	case 9:
		return nd(api.NdProduct, "", m.some(2, sub)...)
	case 10:
		return nd(api.NdQuant, `\A`, nd(api.NdBind, "", named("x"), sub()), sub())
	case 11:
		return nd(api.NdIf, "", named("a"), sub(), sub())
	case 12:
		n := nd(api.NdCase, "", m.some(1, func() api.Node { return nd(api.NdArm, "", sub(), sub()) })...)
		if m.IntN(2) == 0 {
			n.L = append(n.L, api.Node{Kind: api.NdArm, N: 1, L: []api.Node{sub()}})
		}
		return n
	case 13:
		return nd(api.NdLet, "", nd(api.NdDefine, "d", sub()), sub())
	}
	return nd(api.NdFilter, "", nd(api.NdBind, "", named("x"), sub()), sub())
}

// P4.2: in a substitution, a sign ahead of a name is an argument by itself.
func TestNeededInSubstitutions(t *testing.T) {
	for seed := range uint64(500) {
		m := newMaker(seed)
		arg := nd(api.NdPrefix, "-", m.expr(2+m.IntN(3)))
		if m.IntN(2) == 0 {
			arg = nd(api.NdJunct, `/\`, m.some(1, func() api.Node { return m.expr(3) })...)
		}
		for range m.IntN(3) {
			switch m.IntN(4) {
			case 0:
				arg = nd(api.NdPrime, "", arg)
			case 1:
				arg = nd(api.NdInfix, m.sign(), arg, m.expr(2))
			case 2:
				arg = nd(api.NdIndex, "", arg, named("x"))
			case 3:
				arg = nd(api.NdPrefix, "-", arg)
			}
		}
		compareNeeded(t, seed, nd(api.NdModule, "M", nd(api.NdInstance, "K", nd(api.NdSubst, "a", arg)), m.unit(2)))
	}
}
