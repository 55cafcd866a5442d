package module_test

import (
	"fmt"
	"slices"
	"strings"
	"testing"

	"foregone/api"
	"foregone/module"
	"foregone/parse"
)

// read returns the modules of texts of the form NAME: units.
func read(t *testing.T, texts ...string) []api.Node {
	t.Helper()
	var l []api.Node
	for _, s := range texts {
		n, at, e := parse.Module(textOf(s))
		if e != api.OK {
			t.Fatalf("%.200s: error %d at %.200q", s, e, textOf(s)[at:])
		}
		l = append(l, n)
	}
	return l
}

// moduleText returns the text of a module.
func moduleText(name, units string) string {
	return "---- MODULE " + name + " ----\n" + units + "\n====\n"
}

// flatTree returns the flat module of a text in which names have $ instead of an exclamation mark.
func flatTree(t *testing.T, text string) api.Node {
	t.Helper()
	name, units, _ := strings.Cut(text, ":")
	n, at, e := parse.Module(moduleText(name, strings.ReplaceAll(units, "$", "_q_")))
	if e != api.OK {
		t.Fatalf("%s: error %d at %d", text, e, at)
	}
	return qualified(n)
}

// qualified returns a tree with the names that it is to have.
func qualified(n api.Node) api.Node {
	n.S = strings.ReplaceAll(n.S, "_q_", "!")
	n.L = slices.Clone(n.L)
	for i := range n.L {
		n.L[i] = qualified(n.L[i])
	}
	return n
}

// textOf returns the text of a module of a text of the form NAME: units.
func textOf(s string) string {
	name, units, _ := strings.Cut(s, ":")
	return moduleText(name, units)
}

// flatOf returns the flat module of the last one of some modules.
func flatOf(t *testing.T, texts ...string) api.Node {
	t.Helper()
	l := read(t, texts...)
	n, spot, e := module.Flat(l, l[len(l)-1].S)
	if e != api.OK || spot != (api.Spot{}) {
		t.Errorf("%.300q: error %d at %v", texts, e, spot)
	}
	if !parse.IsFlat(n) {
		t.Errorf("%.300q: no flat module: %.300s", texts, shown(n))
	}
	return n
}

// wantFlat compares the flat module of the last one of some modules.
func wantFlat(t *testing.T, want string, texts ...string) {
	t.Helper()
	got, tree := flatOf(t, texts...), flatTree(t, want)
	if !parse.Same(got, tree) {
		t.Errorf("%q:\ngot  %s\nwant %s", texts, shown(got), shown(tree))
	}
}

// wantError compares the error of the last one of some modules, which is at the place that one of the texts marks; without a mark it is one of no place.
func wantError(t *testing.T, want api.Errno, texts ...string) {
	t.Helper()
	const mark = "§"
	var wanted api.Spot
	var plain []string
	for _, s := range texts {
		if at := strings.Index(textOf(s), mark); at >= 0 {
			wanted = api.Spot{Module: s[:strings.Index(s, ":")], At: at}
		}
		plain = append(plain, strings.Replace(s, mark, "", 1))
	}
	l := read(t, plain...)
	got, spot, e := module.Flat(l, l[len(l)-1].S)
	if e != want || spot != wanted || !isZero(got) {
		t.Errorf("%.300q: error %d at %v, want %d at %v", texts, e, spot, want, wanted)
	}
}

func isZero(n api.Node) bool { return same(n, api.Node{}) }

// same reports whether two trees are equal, also in At and End.
func same(a, b api.Node) bool {
	if !parse.Same(a, b) || a.At != b.At || a.End != b.End {
		return false
	}
	for i := range a.L {
		if !same(a.L[i], b.L[i]) {
			return false
		}
	}
	return true
}

// shown returns a short text of a tree.
func shown(n api.Node) string {
	s := strings.TrimSpace(fmt.Sprint(n.Kind, " ", n.S))
	if n.N != 0 {
		s += fmt.Sprint(":", n.N)
	}
	for _, e := range n.L {
		s += " " + shown(e)
	}
	return "(" + s + ")"
}
