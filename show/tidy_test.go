package show_test

import (
	"strings"
	"testing"

	"foregone/api"
	"foregone/parse"
	"foregone/show"
)

// P4.3
func TestTidy(t *testing.T) {
	for _, x := range [][2]string{
		{"  (a)+ \n (* c *) ((b))", "a + b"}, {"(*x*)a", "a"}, {`a\land(b\lor(c))`, `a /\ (b \/ c)`}, {"\\* line\n---- MODULE M ----\nA==(1)====", "---- MODULE M ----\nA == 1\n====\n"},
		{"/\\ a\n/\\ b", "/\\ a\n/\\ b"}, {"  /\\ (a)", "/\\ a"}, {`\b101 \div \o17`, `5 \div 15`},
	} {
		if got, at, e := show.Tidy(x[0]); got != x[1] || at != 0 || e != api.OK {
			t.Errorf("Tidy(%q): %q, %d, %d, want %q", x[0], got, at, e, x[1])
		}
	}
	for _, x := range []struct {
		text string
		at   int
		e    api.Errno
	}{
		{"", 0, api.ErrParse}, {"a b", 2, api.ErrParse}, {"(a", 2, api.ErrParse}, {"a = b = c", 6, api.ErrPrec}, {`a /\ b \/ c`, 7, api.ErrPrec}, {"a ? b", 2, api.ErrChar}, {`a "b`, 2, api.ErrQuote}, {"a (* b", 2, api.ErrComment}, {`\b12`, 0, api.ErrDigits}, {strings.Repeat("x", 41), 0, api.ErrLong},
		{"---- a", 5, api.ErrParse}, {"---- MODULE M ---- A == 1", 25, api.ErrParse}, {"---- MODULE M ---- A == a = b = c ====", 30, api.ErrPrec}, {"---- MODULE M ---- ? ====", 19, api.ErrChar}, {"---- MODULE M ---- ==== a", 24, api.ErrParse}, {"---- MODULE M ---- ==== ---- MODULE N ---- ====", 24, api.ErrParse},
		{"a ----", 2, api.ErrParse}, {"====", 0, api.ErrParse}, {strings.Repeat("a", api.MaxText+1), 0, api.ErrLimit}, {strings.Repeat("a ", api.MaxTokens+1), 0, api.ErrLimit}, {strings.Repeat("-(", api.MaxDeepN) + "a" + strings.Repeat(")", api.MaxDeepN), 0, api.ErrLimit},
	} {
		if got, at, e := show.Tidy(x.text); got != "" || at != x.at || e != x.e {
			t.Errorf("Tidy(%.40q): %.40q, %d, %d, want %d at %d", x.text, got, at, e, x.e, x.at)
		}
	}
}

// P4.3: ErrLimit where the text with parentheses at all places would be too long, and not ahead of it.
func TestTidyLimits(t *testing.T) {
	for text, want := range map[string]api.Errno{"<<" + strings.Repeat("a, ", 4998) + "a>>'": api.OK, "<<" + strings.Repeat("a, ", 4999) + "a>>": api.ErrLimit} {
		got, at, e := show.Tidy(text)
		if e != want || at != 0 || e == api.OK && got != text || e != api.OK && got != "" {
			t.Errorf("Tidy of %d bytes: %d bytes, %d, %d", len(text), len(got), at, e)
		}
	}
}

// P4.3
func TestUnbulletAndBullet(t *testing.T) {
	for _, x := range [][3]string{
		{"/\\ a\n/\\ b\n/\\ c", `(a /\ b) /\ c`, "/\\ a\n/\\ b\n/\\ c"},
		{`a /\ b /\ c`, `a /\ b /\ c`, "/\\ a\n/\\ b\n/\\ c"},
		{`a \/ (b \/ c)`, `a \/ (b \/ c)`, "\\/ a\n\\/ \\/ b\n   \\/ c"},
		{`a /\ (b \/ c) /\ d`, `a /\ (b \/ c) /\ d`, "/\\ a\n/\\ \\/ b\n   \\/ c\n/\\ d"},
		{`(a \/ b) /\ c`, `(a \/ b) /\ c`, "/\\ \\/ a\n   \\/ b\n/\\ c"},
		{`/\ a`, "a", `/\ a`}, {`\/ /\ a`, "a", `\/ /\ a`},
		{"/\\ a\n/\\ b /\\ c", `a /\ (b /\ c)`, "/\\ a\n/\\ /\\ b\n   /\\ c"},
		{"(/\\ a\n /\\ b) /\\ c", `(a /\ b) /\ c`, "/\\ /\\ a\n   /\\ b\n/\\ c"},
		{`{a /\ b} = (c \/ d => e)`, `{a /\ b} = (c \/ d => e)`, "{/\\ a\n /\\ b} = ((\\/ c\n           \\/ d) => e)"},
		{`F(/\, a /\ b)`, `F(/\, a /\ b)`, "F(/\\, /\\ a\n      /\\ b)"},
		{`a => b`, `a => b`, `a => b`},
		{"---- MODULE M ---- A == a /\\ b ASSUME \\/ c\n ====", "---- MODULE M ---- A == a /\\ b ASSUME c ====", "---- MODULE M ----\nA == /\\ a\n     /\\ b\nASSUME \\/ c\n===="},
	} {
		n := tree(t, x[0])
		for i, f := range []func(n api.Node) (api.Node, api.Errno){show.Unbullet, show.Bullet} {
			m, e := f(n)
			if e != api.OK || !parse.Same(m, tree(t, x[1+i])) {
				t.Errorf("%q, %d: %d, %v, want %q", x[0], i, e, m, x[1+i])
			}
			if !isBare(m) {
				t.Errorf("%q, %d: At or End is not 0: %v", x[0], i, m)
			}
		}
	}
}

func isBare(n api.Node) bool {
	for _, e := range n.L {
		if !isBare(e) {
			return false
		}
	}
	return n.At == 0 && n.End == 0
}

// junct makes a list of names.
func junct(count int) api.Node {
	n := nd(api.NdJunct, `/\`)
	for range count {
		n.L = append(n.L, named("a"))
	}
	return n
}

// P4.3: trees that are too deep without lists, and too many nodes.
func TestUnbulletLimits(t *testing.T) {
	for _, x := range []struct {
		n api.Node
		e api.Errno
	}{
		{junct(300), api.OK}, {junct(301), api.ErrLimit}, {junct(19999), api.ErrLimit}, {nd(api.NdPrime, "", junct(299)), api.OK}, {nd(api.NdPrime, "", junct(300)), api.ErrLimit},
	} {
		m, e := show.Unbullet(x.n)
		if e != x.e || e != api.OK && m.Kind != 0 {
			t.Errorf("Unbullet: kind %d, %d, want %d", m.Kind, e, x.e)
		}
		if m, e := show.Bullet(x.n); e != api.OK || !parse.Same(m, x.n) {
			t.Errorf("Bullet of lists: %d", e)
		}
	}
	set := nd(api.NdSet, "")
	for range 4999 {
		set.L = append(set.L, junct(3))
	}
	if m, e := show.Unbullet(set); e != api.ErrLimit || m.Kind != 0 {
		t.Errorf("Unbullet with more nodes than a tree may have: kind %d, %d", m.Kind, e)
	}
	deep := named("a")
	for range 299 {
		deep = nd(api.NdInfix, `\/`, deep, named("b"))
	}
	if m, e := show.Bullet(deep); e != api.OK || m.Kind != api.NdJunct || len(m.L) != 300 {
		t.Errorf("Bullet of a deep tree: %d items, %d", len(m.L), e)
	}
}

// P4.9
func TestListLaws(t *testing.T) {
	for seed := range uint64(2000) {
		m := newMaker(seed)
		n := m.any(5)
		flat, e1 := show.Unbullet(n)
		listed, e2 := show.Bullet(n)
		if e1 != api.OK || e2 != api.OK {
			t.Fatalf("seed %d: %d, %d", seed, e1, e2)
		}
		if hasList(flat) {
			t.Errorf("seed %d: Unbullet has a list", seed)
		}
		if !hasList(n) && !parse.Same(n, flat) {
			t.Errorf("seed %d: Unbullet of a tree without lists", seed)
		}
		if again, _ := show.Unbullet(listed); !parse.Same(again, flat) {
			t.Errorf("seed %d: Unbullet of Bullet", seed)
		}
		if again, _ := show.Bullet(listed); !parse.Same(again, listed) {
			t.Errorf("seed %d: Bullet of Bullet", seed)
		}
	}
}

func hasList(n api.Node) bool {
	for _, e := range n.L {
		if hasList(e) {
			return true
		}
	}
	return n.Kind == api.NdJunct
}

// R2: arguments stay what they are, and results share nothing with them.
func TestTreesAreNew(t *testing.T) {
	n := tree(t, "/\\ a\n/\\ 12 \\/ c")
	before := parse.Bare(n)
	flat, _ := show.Unbullet(n)
	listed, _ := show.Bullet(n)
	for _, m := range []api.Node{flat, listed} {
		m.L[1].L[0].I.D[0] = 5
		m.L[0], m.L[1] = named("changed"), named("changed")
	}
	if !parse.Same(n, before) {
		t.Error("the argument was changed")
	}
}
