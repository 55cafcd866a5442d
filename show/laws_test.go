package show_test

import (
	"math/rand/v2"
	"slices"
	"strings"
	"testing"

	"foregone/api"
	"foregone/lex"
	"foregone/parse"
	"foregone/show"
)

// P4.4
func TestReadBack(t *testing.T) {
	for seed := range uint64(500) {
		m := newMaker(seed)
		n := m.any(2 + m.IntN(4))
		par := neededOf(t, n)
		texts := []string{textOf(t, n), withOf(t, n, par)}
		full, e := show.Full(n)
		if e != api.OK {
			t.Fatal(e)
		}
		texts = append(texts, full)
		for range 5 {
			more := slices.Clone(par)
			for i := range more {
				more[i] = more[i] || m.IntN(3) == 0
			}
			texts = append(texts, withOf(t, n, more))
		}
		for _, text := range texts {
			if !isRead(text, n) {
				t.Fatalf("seed %d: not read as the tree:\n%s", seed, text)
			}
		}
		if texts[0] != texts[1] {
			t.Errorf("seed %d: Text is not With of Needed", seed)
		}
	}
}

// P4.5
func TestNoneTooMany(t *testing.T) {
	for seed := range uint64(1000) {
		m := newMaker(seed)
		n := m.any(4)
		par := neededOf(t, n)
		for i := range par {
			if !par[i] {
				continue
			}
			text, e := show.With(n, flip(par, i))
			if isForced := text == withOf(t, n, par); e == api.OK && !isForced && isRead(text, n) {
				t.Fatalf("seed %d: place %d needs no parentheses:\n%s", seed, i, text)
			}
		}
	}
}

// P4.6
func TestTidied(t *testing.T) {
	for seed := range uint64(500) {
		m := newMaker(seed)
		n := m.any(2 + m.IntN(4))
		text := textOf(t, n)
		full, _ := show.Full(n)
		for _, s := range []string{text, full} {
			if tidy, at, e := show.Tidy(s); tidy != text || at != 0 || e != api.OK {
				t.Fatalf("seed %d: Tidy of\n%s\nis %d,\n%s", seed, s, e, tidy)
			}
		}
	}
}

// P4.7
func TestTokenLaws(t *testing.T) {
	for seed := range uint64(500) {
		m := newMaker(seed)
		n := m.any(2 + m.IntN(3))
		count := len(placesOf(t, n))
		par := all(count, false)
		for i := range par {
			par[i] = m.IntN(2) == 0
		}
		tokens, e := show.Tokens(n, par)
		if text := withOf(t, n, par); e != api.OK || !slices.EqualFunc(tokens, tokensOf(t, text), alike) {
			t.Fatalf("seed %d: other tokens:\n%s", seed, text)
		}
		none, _ := show.Tokens(n, all(count, false))
		full, _ := show.Tokens(n, all(count, true))
		forced := 0
		for i := range par {
			one, _ := show.Tokens(n, flip(all(count, false), i))
			if len(one) == len(none) {
				forced++
			} else if len(one) != len(none)+2 {
				t.Fatalf("seed %d: place %d has %d tokens more", seed, i, len(one)-len(none))
			}
		}
		if len(full) != len(none)+2*(count-forced) {
			t.Fatalf("seed %d: %d tokens, %d without parentheses, %d places, %d forced", seed, len(full), len(none), count, forced)
		}
	}
}

// P4.10
func TestParts(t *testing.T) {
	for seed := range uint64(400) {
		m := newMaker(seed)
		n := m.any(4)
		paths, par := placesOf(t, n), neededOf(t, n)
		walk(n, nil, func(e api.Node, path []int) {
			if !parse.IsExpr(e) {
				return
			}
			from := slices.IndexFunc(paths, func(p []int) bool { return len(p) > len(path) && slices.Equal(p[:len(path)], path) })
			for i, is := range neededOf(t, e) {
				if is && !par[from+i] {
					t.Fatalf("seed %d: place %v is needed in %v alone", seed, paths[from+i], path)
				}
			}
		})
	}
}

// walk calls visit for all nodes of a tree, with their paths.
func walk(n api.Node, path []int, visit func(n api.Node, path []int)) {
	visit(n, path)
	for i, e := range n.L {
		walk(e, append(slices.Clone(path), i), visit)
	}
}

// P4.11
func TestUnits(t *testing.T) {
	for seed := range uint64(300) {
		m := newMaker(seed)
		n := m.module(4)
		want := "---- MODULE " + n.S + " ----\n"
		for _, unit := range n.L {
			text := textOf(t, nd(api.NdModule, n.S, unit))
			lines := strings.SplitAfter(text, "\n")
			want += strings.Join(lines[1:len(lines)-2], "")
		}
		if got := textOf(t, n); got != want+"====\n" {
			t.Fatalf("seed %d:\n%s\nwant\n%s", seed, got, want)
		}
	}
}

// P4.12
func TestBlanksBetweenTokens(t *testing.T) {
	for seed := range uint64(500) {
		m := newMaker(seed)
		m.lists = false
		n := m.any(2 + m.IntN(4))
		text := textOf(t, n)
		for _, s := range []string{blanked(t, text, m.Rand, 1), blanked(t, text, m.Rand, 4)} {
			if tidy, _, e := show.Tidy(s); e != api.OK || tidy != text {
				t.Fatalf("seed %d: Tidy of %q: %d, %q", seed, s, e, tidy)
			}
		}
	}
}

// blanked puts blanks between the tokens of a text, at least one.
func blanked(t *testing.T, text string, r *rand.Rand, most int) string {
	t.Helper()
	var b strings.Builder
	for _, token := range tokensOf(t, text) {
		spelling, _ := lex.Spell(token)
		b.WriteString(strings.Repeat(" ", 1+r.IntN(most)))
		b.WriteString(spelling)
	}
	return b.String()
}
