package module_test

import (
	"fmt"
	"slices"
	"strings"
	"testing"

	"foregone/api"
	"foregone/module"
	"foregone/parse"
)

// sample is random modules whose last one has a flat module.
type sample struct {
	texts []string
	l     []api.Node
	root  string
	flat  api.Node
}

// samples yields random modules.
func samples(t *testing.T, from, count uint64) func(yield func(sample) bool) {
	return func(yield func(sample) bool) {
		t.Helper()
		for seed := from; seed < from+count; seed++ {
			s := sample{texts: randomModules(seed)}
			s.l = read(t, s.texts...)
			s.root = s.l[len(s.l)-1].S
			var e api.Errno
			if s.flat, _, e = module.Flat(s.l, s.root); e == api.OK && !yield(s) {
				return
			}
		}
	}
}

// with returns the flat module of a root whose text is put behind the modules.
func (s sample) with(t *testing.T, texts ...string) (api.Node, api.Errno) {
	t.Helper()
	l := append(slices.Clone(s.l), read(t, texts...)...)
	n, _, e := module.Flat(l, l[len(l)-1].S)
	return n, e
}

// isDefinition reports whether a unit of a flat module is a definition.
func isDefinition(n api.Node) bool { return n.Kind == api.NdDefine || n.Kind == api.NdFunDef }

// free returns the names and definable signs that are not bound in a tree.
func free(n api.Node, bound []string) []string {
	var names []string
	isSign := n.Kind == api.NdInfix || n.Kind == api.NdSign
	if (n.Kind == api.NdName || n.Kind == api.NdCall || isSign && parse.Definable(n.S)) && !slices.Contains(bound, n.S) {
		names = append(names, n.S)
	}
	refKids(n, bound, func(e api.Node, bound []string) api.Node {
		names = append(names, free(e, bound)...)
		return e
	})
	return names
}

// P5.5
func TestFlatNames(t *testing.T) {
	language := strings.Fields("Int Nat Seq Len Head Tail Append SubSeq Cardinality")
	for s := range samples(t, 10000, 300) {
		declared, promised := map[string]bool{}, map[string]bool{}
		look := func(n api.Node) {
			for _, name := range free(n, nil) {
				if !declared[name] && !promised[name] && !slices.Contains(language, name) {
					t.Errorf("%s: %s is not declared ahead", s.texts, name)
				}
			}
		}
		declare := func(name string) {
			if declared[name] {
				t.Errorf("%s: %s is declared twice", s.texts, name)
			}
			declared[name] = true
		}
		for _, u := range s.flat.L {
			for _, e := range u.L {
				switch u.Kind {
				case api.NdVariables:
					look(e)
					declare(e.S)
				case api.NdConstants:
					declare(e.S)
				case api.NdRecursive:
					promised[e.S] = true
				}
			}
			if isDefinition(u) || u.Kind == api.NdAssume {
				look(u)
			}
			if isDefinition(u) {
				declare(u.S)
			}
		}
		if !parse.IsFlat(s.flat) {
			t.Errorf("%s: no flat module", s.texts)
		}
	}
}

// P5.6
func TestNothingLost(t *testing.T) {
	for s := range samples(t, 11000, 300) {
		from := map[api.Spot]int{}
		for _, u := range s.flat.L {
			if !isDefinition(u) {
				continue
			}
			spot, name, e := module.Origin(s.l, s.root, u.S)
			if e != api.OK || name == "" {
				t.Errorf("%s: %s has no origin", s.texts, u.S)
			}
			from[spot]++
		}
		byName := map[string]api.Node{}
		for _, m := range s.l {
			byName[m.S] = m
		}
		// What comes by extending alone comes once; an instance of the same module may have more.
		hasInstance := strings.Contains(strings.Join(s.texts, " "), "INSTANCE")
		extended := []string{s.root}
		for i := 0; i < len(extended); i++ {
			for _, u := range byName[extended[i]].L {
				if u.Kind == api.NdExtends {
					extended = append(extended, refNames(u.L)...)
				}
				isWritten := isDefinition(u) && u.L[len(u.L)-1].Kind != api.NdInstance
				count := from[api.Spot{Module: extended[i], At: u.At}]
				if isWritten && (count == 0 || count > 1 && !hasInstance) {
					t.Errorf("%s: what %s defines at %d is the origin of %d", s.texts, extended[i], u.At, count)
				}
			}
		}
	}
}

// P5.7
func TestFlatAlready(t *testing.T) {
	count := 0
	for s := range samples(t, 12000, 600) {
		m := s.l[len(s.l)-1]
		isPlain := !slices.ContainsFunc(m.L, func(u api.Node) bool {
			return slices.Contains([]int{api.NdExtends, api.NdInstance, api.NdTheorem}, u.Kind) || isDefinition(u) && u.N == 1
		})
		if !isPlain || strings.Contains(s.texts[len(s.l)-1], "INSTANCE") || strings.Contains(s.texts[len(s.l)-1], "!") && hasPath(m) {
			continue
		}
		count++
		if !same(s.flat, m) {
			t.Errorf("%s: %s", s.texts[len(s.l)-1], shown(s.flat))
		}
	}
	if count < 20 {
		t.Errorf("%d modules", count)
	}
	// What has been made is flat already, too, where all its names are plain.
	wantFlat(t, `M: CONSTANT c d == c`, `M: CONSTANT c d == c`)
	wantFlat(t, `M:`, `M:`)
}

func hasPath(n api.Node) bool { return n.Kind == api.NdQual || slices.ContainsFunc(n.L, hasPath) }

// P5.8
func TestExtending(t *testing.T) {
	for s := range samples(t, 13000, 200) {
		l := slices.Clone(s.l)
		slices.Reverse(l)
		if n, _, e := module.Flat(l, s.root); e != api.OK || !same(n, s.flat) {
			t.Errorf("%s: another one with the modules in another order", s.texts)
		}
		l = append(read(t, `Unused: EXTENDS `+s.root+` d == z CONSTANT d, d`), s.l...)
		if n, _, e := module.Flat(l, s.root); e != api.OK || !same(n, s.flat) {
			t.Errorf("%s: another one with a further module", s.texts)
		}
		exports, _ := module.Exports(s.l, s.root)
		isOpen := func(name string) bool {
			return slices.ContainsFunc(exports, func(x api.Export) bool { return x.Name == name })
		}
		table := map[string]refName{}
		for _, u := range s.flat.L {
			if isDefinition(u) && !isOpen(u.S) {
				table[u.S] = refName{name: s.root + "!" + refPlain(u.S)}
			}
		}
		for _, text := range []string{`P: EXTENDS ` + s.root, `P: EXTENDS ` + s.root + `, TLC, ` + s.root} {
			got, e := s.with(t, text)
			want := renamed(s.flat, table)
			if tooLong(table) {
				if e != api.ErrLimit {
					t.Errorf("%s: %d", s.texts, e)
				}
				continue
			}
			if !slices.EqualFunc(got.L, want.L, same) || e != api.OK {
				t.Errorf("%s: extended\n%s\nwant\n%s", s.texts, shown(got), shown(want))
			}
		}
	}
}

func tooLong(table map[string]refName) bool {
	for _, to := range table {
		if len(to.name) > api.MaxName {
			return true
		}
	}
	return false
}

// renamed returns a flat module whose definitions have other names.
func renamed(n api.Node, table map[string]refName) api.Node {
	n = refRename(n, nil, table)
	for i, u := range n.L {
		if to, ok := table[u.S]; ok && isDefinition(u) {
			n.L[i].S = to.name
		}
		if u.Kind == api.NdRecursive {
			for k, d := range u.L {
				if to, ok := table[d.S]; ok {
					u.L[k].S = to.name
				}
			}
		}
	}
	return n
}

// P5.9
func TestSameInstance(t *testing.T) {
	for s := range samples(t, 14000, 200) {
		table := map[string]refName{}
		var params string
		var definitions []string
		for _, u := range s.flat.L {
			switch {
			case u.Kind == api.NdConstants || u.Kind == api.NdVariables:
				for _, d := range u.L {
					params += fmt.Sprintf(" CONSTANT %s%s", d.S, inParentheses(slices.Repeat([]string{"_"}, d.N)))
				}
			case isDefinition(u):
				definitions = append(definitions, u.S)
			}
		}
		again := renamed(s.flat, nil)
		for _, name := range []string{"Q_", "P_"} {
			for _, d := range definitions {
				to := table[d].name
				if to == "" {
					to = d
				}
				table[d] = refName{name: name + "!" + refPlain(to)}
			}
			want := renamed(again, table)
			inner := s.root
			if name == "P_" {
				inner = "Q"
			}
			texts := []string{`Q:` + params + ` Q_ == INSTANCE ` + s.root, `P:` + params + ` P_ == INSTANCE ` + inner}
			if name == "Q_" {
				texts = texts[:1]
			}
			got, e := s.with(t, texts...)
			if tooLong(table) {
				continue
			}
			if e != api.OK || !slices.EqualFunc(slices.DeleteFunc(slices.Clone(got.L), isNoDefinition), slices.DeleteFunc(slices.Clone(want.L), isNoDefinition), same) {
				t.Errorf("%s: error %d, an instance has\n%s\nwant\n%s", s.texts, e, shown(got), shown(want))
			}
		}
	}
}

func isNoDefinition(n api.Node) bool { return !isDefinition(n) }

// P5.10
func TestRenamedBound(t *testing.T) {
	for s := range samples(t, 15000, 120) {
		for _, name := range []string{"y", "p", "a", "x1", "w", "c"} {
			l := slices.Clone(s.l)
			for i := range l {
				l[i].L = slices.Clone(l[i].L)
				for k, u := range l[i].L {
					isInstance := u.Kind == api.NdInstance || isDefinition(u) && u.L[len(u.L)-1].Kind == api.NdInstance
					if !isInstance {
						l[i].L[k] = numbered(u, map[string]string{}, func(s string) string {
							if s == name {
								return "zz_9"
							}
							return s
						})
					}
				}
			}
			got, _, e := module.Flat(l, s.root)
			if e != api.OK || !same(canonical(got), canonical(s.flat)) {
				t.Errorf("%s: with another name for %s: error %d\n%s\n%s", s.texts, name, e, shown(got), shown(s.flat))
			}
		}
	}
}

// canonical returns a flat module whose bound names are numbers.
func canonical(n api.Node) api.Node {
	n.L = slices.Clone(n.L)
	for i, u := range n.L {
		count := 0
		n.L[i] = numbered(u, map[string]string{}, func(string) string {
			count++
			return fmt.Sprint("n", count)
		})
	}
	return n
}

// numbered returns a tree whose bound names are others.
func numbered(n api.Node, bound map[string]string, fresh func(name string) string) api.Node {
	last := len(n.L) - 1
	l := slices.Clone(n.L)
	inner := map[string]string{}
	for k, v := range bound {
		inner[k] = v
	}
	bind := func(d *api.Node) {
		if !parse.Definable(d.S) {
			inner[d.S] = fresh(d.S)
			d.S = inner[d.S]
		} else {
			delete(inner, d.S)
		}
	}
	binders := func(from, to int) {
		for i := from; i < to; i++ {
			if l[i].Kind == api.NdDecl {
				bind(&l[i])
				continue
			}
			b := l[i]
			b.L = slices.Clone(b.L)
			b.L[len(b.L)-1] = numbered(b.L[len(b.L)-1], bound, fresh)
			for k := range b.L[:len(b.L)-1] {
				bind(&b.L[k])
			}
			l[i] = b
		}
	}
	switch n.Kind {
	case api.NdQuant, api.NdFun, api.NdChoose, api.NdFilter, api.NdFunDef, api.NdLambda, api.NdDefine:
		binders(0, last)
		l[last] = numbered(l[last], inner, fresh)
	case api.NdMap:
		binders(1, len(l))
		l[0] = numbered(l[0], inner, fresh)
	case api.NdLet:
		for i := range last {
			scope := map[string]string{}
			for k, v := range inner {
				scope[k] = v
			}
			l[i] = numbered(l[i], scope, fresh)
			bind(&l[i])
		}
		l[last] = numbered(l[last], inner, fresh)
	default:
		for i := range l {
			l[i] = numbered(l[i], bound, fresh)
		}
		if to, ok := bound[n.S]; ok && (n.Kind == api.NdName || n.Kind == api.NdCall) {
			n.S = to
		}
	}
	n.L = l
	return n
}

// P5.11
func TestExportsFirst(t *testing.T) {
	for s := range samples(t, 16000, 300) {
		own, _ := module.Exports(s.l, s.root)
		l := append(slices.Clone(s.l), read(t, `P: EXTENDS `+s.root+`, TLC CONSTANT further dd(n) == further`)...)
		got, e := module.Exports(l, "P")
		if e == api.ErrLimit {
			continue
		}
		if e != api.OK || len(got) != len(own)+2 || !slices.Equal(got[:len(own)], own) {
			t.Errorf("%s: %v, %d; want ahead %v", s.texts, got, e, own)
		}
	}
}

// P5.12
func TestNothingCaught(t *testing.T) {
	count := 0
	for s := range samples(t, 17000, 300) {
		for _, u := range s.l[len(s.l)-1].L {
			last := len(u.L) - 1
			if u.Kind != api.NdDefine || u.L[last].Kind != api.NdInstance || last == 0 {
				continue
			}
			for _, d := range s.flat.L {
				if !isDefinition(d) || !strings.HasPrefix(d.S, u.S+"!") {
					continue
				}
				count++
				if d.Kind != api.NdDefine || len(d.L) <= last || !slices.EqualFunc(d.L[:last], u.L[:last], same) {
					t.Errorf("%s: %s does not begin with the parameters of %s", s.texts, shown(d), u.S)
					continue
				}
				_, p, _ := module.Origin(s.l, s.root, d.S)
				if isReplaced := slices.ContainsFunc(u.L[last].L, func(x api.Node) bool { return u.S+"!"+x.S == d.S && x.S == p }); isReplaced {
					continue
				}
				for _, name := range boundNames(d.L[last:]) {
					if slices.Contains(refNames(u.L[:last]), name) {
						t.Errorf("%s: %s binds %s again", s.texts, shown(d), name)
					}
				}
			}
		}
	}
	if count < 50 {
		t.Errorf("%d definitions", count)
	}
}

// boundNames returns the names that are bound in some trees.
func boundNames(l []api.Node) []string {
	var names []string
	for _, n := range l {
		switch n.Kind {
		case api.NdDecl, api.NdBind:
			names = append(names, refNames([]api.Node{n})...)
		case api.NdLet:
			names = append(names, refNames(n.L[:len(n.L)-1])...)
		}
		names = append(names, boundNames(n.L)...)
	}
	return names
}

// Arguments stay as they are, and results are new. P5.2, P5.4
func TestNewMemory(t *testing.T) {
	for s := range samples(t, 18000, 60) {
		before := read(t, s.texts...)
		first, _, _ := module.Flat(s.l, s.root)
		duties, _ := module.Duties(s.l, s.root)
		spoil(first.L)
		for _, d := range duties {
			spoil([]api.Node{d.E})
		}
		if !slices.EqualFunc(s.l, before, same) {
			t.Fatalf("%s: the modules have changed", s.texts)
		}
		if n, _, _ := module.Flat(s.l, s.root); !same(n, s.flat) {
			t.Fatalf("%s: the flat module has changed", s.texts)
		}
	}
}

// spoil changes all nodes of a list, and what stands behind it.
func spoil(l []api.Node) {
	for i := range l {
		spoil(l[i].L)
		for k := range l[i].I.D {
			l[i].I.D[k]++
		}
		_ = append(l[i].I.D, 7)
		l[i].S += "?"
	}
	_ = append(l, api.Node{Kind: -1})
}
