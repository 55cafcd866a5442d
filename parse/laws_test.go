package parse_test

import (
	"math/rand/v2"
	"slices"
	"strings"
	"testing"

	"foregone/api"
	"foregone/lex"
	"foregone/parse"
)

// P3.1

func TestSecondReader(t *testing.T) {
	errors := map[api.Errno]int{}
	kinds := map[int]int{}
	note := func(n api.Node, e api.Errno) {
		errors[e]++
		walk(n, func(n api.Node) { kinds[n.Kind]++ })
	}
	for seed := range uint64(4000) {
		s := randomExpr(seed, false)
		for _, text := range []string{s, spoilt(seed, s), spoilt(seed+1, spoilt(seed, s))} {
			compareExpr(t, text)
			n, _, e := parse.Expr(text)
			note(n, e)
		}
	}
	for seed := range uint64(2000) {
		s := randomModule(seed)
		for _, text := range []string{s, spoilt(seed, s)} {
			compareModule(t, text)
			n, _, e := parse.Module(text)
			note(n, e)
		}
	}
	for kind := api.NdModule; kind <= api.NdSign; kind++ {
		if kinds[kind] < 50 {
			t.Errorf("only %d nodes of the kind %d", kinds[kind], kind)
		}
	}
	for _, e := range []api.Errno{api.OK, api.ErrParse, api.ErrPrec} {
		if errors[e] < 1000 {
			t.Errorf("only %d texts with %d", errors[e], e)
		}
	}
}

// P3.4

func TestWellFormedAndNested(t *testing.T) {
	for _, text := range goodExprs(t, 3000, false) {
		n := tree(t, text)
		if !parse.IsExpr(n) {
			t.Errorf("%q: %s is not well-formed", text, brief(n))
		}
		checkBytes(t, text, n)
	}
	for _, text := range goodModules(t, 3000) {
		n := moduleTree(t, text)
		if parse.Check(n) != api.OK {
			t.Errorf("%q: %s is not well-formed", text, brief(n))
		}
		checkBytes(t, text, n)
	}
}

// checkBytes checks that elements stand one behind the other within their nodes, from a token to a token.
func checkBytes(t *testing.T, text string, n api.Node) {
	t.Helper()
	begins, ends := map[int]bool{}, map[int]bool{}
	for _, token := range tokensOf(t, text) {
		begins[token.At], ends[token.End] = true, true
	}
	walk(n, func(n api.Node) {
		at := n.At
		for _, e := range n.L {
			if e.At < at || e.End <= e.At || e.End > n.End {
				t.Errorf("%q: %s at %d to %d in %s at %d to %d", text, brief(e), e.At, e.End, brief(n), n.At, n.End)
			}
			at = e.End
		}
		if !begins[n.At] || !ends[n.End] {
			t.Errorf("%q: %s at %d to %d", text, brief(n), n.At, n.End)
		}
	})
}

// P3.5

func TestParentheses(t *testing.T) {
	operators := []int{api.NdPrefix, api.NdInfix, api.NdPrime, api.NdProduct}
	for _, text := range goodExprs(t, 3000, true) {
		n := tree(t, text)
		operands := []api.Node{n}
		walk(n, func(n api.Node) {
			if slices.Contains(operators, n.Kind) {
				operands = append(operands, n.L...)
			}
		})
		all := map[int]string{} // what is put in at a byte
		for _, e := range operands {
			one := text[:e.At] + " ( " + text[e.At:e.End] + " ) " + text[e.End:]
			if m := tree(t, one); !parse.Same(m, n) {
				t.Errorf("%q: %s, %q: %s", text, brief(n), one, brief(m))
			}
			all[e.At] += " ( "
			all[e.End] = " ) " + all[e.End]
		}
		var b strings.Builder
		for i := range len(text) + 1 {
			b.WriteString(all[i])
			if i < len(text) {
				b.WriteByte(text[i])
			}
		}
		if m := tree(t, b.String()); !parse.Same(m, n) {
			t.Errorf("%q: %s, %q: %s", text, brief(n), b.String(), brief(m))
		}
	}
}

// P3.6

// block returns the lines of a text, each one with blanks ahead.
func block(text string, blanks int) string {
	return strings.Repeat(" ", blanks) + strings.ReplaceAll(text, "\n", "\n"+strings.Repeat(" ", blanks))
}

func TestColumns(t *testing.T) {
	source := rand.New(rand.NewPCG(37, 38))
	texts := goodExprs(t, 3000, false)
	for range 2500 {
		spelling := [][2]string{{`/\`, `/\`}, {`\/`, `\/`}, {`\land`, `/\`}, {`\lor`, `\/`}}[source.IntN(4)]
		var l []string
		want := node(api.NdJunct, spelling[1])
		for range 1 + source.IntN(4) {
			item := texts[source.IntN(len(texts))]
			want.L = append(want.L, tree(t, item))
			indent := len(spelling[0]) + 1 + source.IntN(3)
			l = append(l, spelling[0]+block(item, indent)[len(spelling[0]):])
		}
		list := strings.Join(l, "\n")
		n, _, e := parse.Expr(list)
		if e == api.ErrLimit {
			continue
		}
		if !parse.Same(n, want) {
			t.Errorf("%q: %s, %d, want %s", list, brief(n), e, brief(want))
		}
		if m := tree(t, block(list, 1+source.IntN(9))); !parse.Same(n, m) {
			t.Errorf("%q, moved to the right: %s", list, brief(m))
		}
		texts[source.IntN(len(texts))] = list // lists within lists
		if len(list) > 2000 {
			texts = goodExprs(t, 500, false)
		}
	}
}

// P3.8

// spellings returns the tokens of a text as they are spelled there.
func spellings(t *testing.T, text string) []string {
	var l []string
	for _, token := range tokensOf(t, text) {
		l = append(l, text[token.At:token.End])
	}
	return l
}

func TestLayout(t *testing.T) {
	between := []string{" ", "  ", "\t", "\n", "\r\n", "(**)", " (* a\n(*)*) *) ", " \\* b )\n", "\n\n   "}
	source := rand.New(rand.NewPCG(39, 40))
	laidOut := func(text string) string {
		var b strings.Builder
		for _, s := range spellings(t, text) {
			b.WriteString(between[source.IntN(len(between))] + s)
		}
		return b.String() + between[source.IntN(len(between))]
	}
	for _, text := range goodExprs(t, 3000, true) {
		n := tree(t, text)
		if has(n, api.NdJunct) {
			continue
		}
		if m := tree(t, laidOut(text)); !parse.Same(n, m) {
			t.Errorf("%q: %s, with other blanks: %s", text, brief(n), brief(m))
		}
	}
	for _, text := range goodModules(t, 2000) {
		n := moduleTree(t, text)
		if has(n, api.NdJunct) {
			continue
		}
		if m := moduleTree(t, laidOut(text)); !parse.Same(n, m) {
			t.Errorf("%q: %s, with other blanks: %s", text, brief(n), brief(m))
		}
	}
}

// P3.9

func TestSpellings(t *testing.T) {
	others := map[string][]string{}
	for _, s := range lex.Signs() {
		others[lex.Canon(s)] = append(others[lex.Canon(s)], s)
	}
	for p := range prefixTable {
		for _, s := range others[p] {
			expectExpr(t, s+" a", "pre "+p+"(a)")
		}
	}
	for p := range infixTable {
		for _, s := range others[p] {
			if p == `\X` {
				expectExpr(t, "a "+s+` b \X c`, "product(a, b, c)")
				continue
			}
			expectExpr(t, "a "+s+" b", p+"(a, b)")
			expectExpr(t, "f( "+s+" , a)", "call f(sign "+p+", a)")
		}
	}
	source := rand.New(rand.NewPCG(41, 42))
	for _, text := range goodExprs(t, 3000, true) {
		n := tree(t, text)
		var l []string
		for _, s := range spellings(t, text) {
			if more := others[lex.Canon(s)]; len(more) > 0 {
				s = more[source.IntN(len(more))]
			}
			l = append(l, s)
		}
		if m := tree(t, strings.Join(l, " ")); !parse.Same(n, m) {
			t.Errorf("%q: %s, spelled otherwise: %s", text, brief(n), brief(m))
		}
	}
	expectExpr(t, lines(`/\ a`, `\land b`, `/\ c`), `list /\(a, b, c)`)
}

// P3.10

func TestUnitsAlone(t *testing.T) {
	for _, text := range goodModules(t, 3000) {
		n := moduleTree(t, text)
		for _, u := range n.L {
			column := u.At - strings.LastIndex(text[:u.At], "\n")
			alone := head + strings.Repeat(" ", column-1) + text[u.At:u.End] + "\n===="
			m, at, e := parse.Module(alone)
			if e != api.OK || len(m.L) != 1 || !parse.Same(m.L[0], u) {
				t.Errorf("%q: %s, the unit %q: %s, %d at %d", text, brief(n), alone, brief(m), e, at)
			}
		}
	}
}

// P3.11

func TestErrorsStay(t *testing.T) {
	failed, last := 0, 0
	for seed := range uint64(6000) {
		read, part := parse.Expr, randomExpr(seed, false)
		if seed%3 == 0 {
			read, part = parse.Module, randomModule(seed)
		}
		text := spoilt(seed, part)
		_, at, e := read(text)
		if e != api.ErrParse && e != api.ErrPrec || strings.Contains(text, "|->") {
			continue
		}
		failed++
		if _, a, f := read(text[:at]); f != api.OK && (f != api.ErrParse || a != at) {
			t.Errorf("%q up to %d: %d at %d", text, at, f, a)
		}
		l := tokensOf(t, text)
		if len(l) == 0 || at >= l[len(l)-1].At {
			last++
			continue
		}
		for k, more := range []string{"", ")", "====", "a", ", /\\", "'", randomExpr(seed+1, false)} {
			if _, a, f := read(text + "\n" + more); a != at || f != e {
				t.Errorf("%q: %d at %d, with %q behind (%d): %d at %d", text, e, at, more, k, f, a)
			}
		}
	}
	if failed < 1500 || last < 50 {
		t.Errorf("only %d texts have an error, %d at the end", failed, last)
	}
}
