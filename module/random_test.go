package module_test

import (
	"fmt"
	"math/rand/v2"
	"strings"
)

// thing is a name that a random module can use.
type thing struct {
	name  string
	args  int
	local bool
	shape string // "constant", "variable", "definition" or "instance"
	of    *source
}

// source is a random module.
type source struct {
	name   string
	text   string
	things []thing
	params []thing
}

// maker makes random modules.
type maker struct {
	*rand.Rand
	sources []*source
	now     *source
	wild    float64 // how often a name is any name

	standard []string // modules that are not given
	count    int
}

// pick returns one of some texts.
func (g *maker) pick(l ...string) string { return l[g.IntN(len(l))] }

func (g *maker) chance(p float64) bool { return g.Float64() < p }

// randomModules returns the texts of random modules.
func randomModules(seed uint64) []string {
	g := &maker{Rand: rand.New(rand.NewPCG(seed, 5))}
	g.wild = []float64{0, 0, 0.01, 0.03}[g.IntN(4)]
	names := []string{"A", "B", "K", "L", "M"}
	if g.standard = []string{"Naturals", "Integers", "Sequences", "FiniteSets", "TLC"}; g.chance(0.1) {
		names[2], g.standard = "Naturals", g.standard[1:]
	}
	var texts []string
	for i := range 2 + g.IntN(4) {
		g.now = &source{name: names[i]}
		g.module()
		g.sources = append(g.sources, g.now)
		texts = append(texts, g.now.name+":"+g.now.text)
	}
	return texts
}

// add adds a line to the module.
func (g *maker) add(format string, args ...any) { g.now.text += fmt.Sprintf(format, args...) + "\n" }

// fresh returns a name for a declaration, mostly one that is new.
func (g *maker) fresh(kind string) string {
	g.count++
	if g.chance(g.wild) {
		return g.pick("c", "d", "x1", "f", "Len", "I", "v")
	}
	if g.chance(0.05) {
		return g.pick("x1", "x2", "x1_") + strings.Repeat("z", g.IntN(2)*g.count)
	}
	if g.chance(g.wild) {
		return kind + strings.Repeat("g", g.IntN(12))
	}
	return fmt.Sprint(kind, g.count)
}

// declare makes a name known.
func (g *maker) declare(t thing) {
	g.now.things = append(g.now.things, t)
	if t.shape == "constant" || t.shape == "variable" {
		g.now.params = append(g.now.params, t)
	}
}

// module makes the text of a module.
func (g *maker) module() {
	g.extends()
	for range g.IntN(8) {
		switch g.IntN(14) {
		case 0, 1:
			g.constants()
		case 2:
			g.variables()
		case 3:
			g.add("ASSUME %s%s", g.pick("", "q == "), g.expr(2, nil))
		case 4:
			g.add("THEOREM %s%s", g.pick("", "q == "), g.expr(1, nil))
		case 5:
			g.recursive()
		case 6, 7, 8:
			g.definition()
		case 9:
			g.function()
		default:
			g.instance()
		}
	}
}

func (g *maker) extends() {
	if !g.chance(0.6) {
		return
	}
	var l []string
	for range 1 + g.IntN(3) {
		if len(g.sources) == 0 || g.chance(0.1) {
			l = append(l, g.pick(g.standard...))
			continue
		}
		s := g.sources[g.IntN(len(g.sources))]
		l = append(l, s.name)
		for _, t := range s.things {
			if !t.local || g.chance(g.wild+0.02) {
				g.declare(t)
			}
		}
	}
	g.add("EXTENDS %s", strings.Join(l, ", "))
}

func (g *maker) decl(kind string, most int) (string, thing) {
	t := thing{name: g.fresh(kind), args: g.IntN(most + 1), shape: "constant"}
	if t.args == 0 || g.chance(0.3) {
		t.args = 0
		return t.name, t
	}
	return t.name + "(_" + strings.Repeat(", _", t.args-1) + ")", t
}

func (g *maker) constants() {
	var l []string
	for range 1 + g.IntN(2) {
		s, t := g.decl(g.pick("c", "C"), 3)
		l = append(l, s)
		g.declare(t)
	}
	g.add("CONSTANTS %s", strings.Join(l, ", "))
}

func (g *maker) variables() {
	t := thing{name: g.fresh("v"), shape: "variable"}
	if g.chance(0.5) {
		g.add("VARIABLE %s", t.name)
	} else {
		g.add("VARIABLE %s \\in %s", t.name, g.expr(1, nil))
	}
	g.declare(t)
}

func (g *maker) local() (string, bool) {
	if g.chance(0.25) {
		return "LOCAL ", true
	}
	return "", false
}

func (g *maker) recursive() {
	if g.chance(0.1) {
		g.add("RECURSIVE %s(_)", g.fresh("r"))
		return
	}
	local, isLocal := g.local()
	t := thing{name: g.fresh("r"), args: 1, shape: "definition", local: isLocal}
	g.add("RECURSIVE %s(_)", t.name)
	g.declare(t)
	if g.chance(0.3) {
		g.definition()
	}
	g.add("%s%s(p) == %s", local, t.name, g.expr(3, []string{"p"}))
}

func (g *maker) definition() {
	local, isLocal := g.local()
	if g.chance(0.2) {
		sign := g.pick("(+)", "++", "\\sqcup", "//", "&")
		g.add("%sp %s q == %s", local, sign, g.expr(3, []string{"p", "q"}))
		g.declare(thing{name: sign, args: 2, shape: "definition", local: isLocal})
		return
	}
	t := thing{name: g.fresh(g.pick("d", "D")), shape: "definition", local: isLocal}
	var params, bound []string
	for i := range g.IntN(3) {
		p := []string{"p", "q", "a"}[(i+g.IntN(2))%3]
		bound = append(bound, p)
		params = append(params, p+g.pick("", "", "(_)"))
	}
	t.args = len(params)
	g.add("%s%s%s == %s", local, t.name, inParentheses(params), g.expr(3, bound))
	g.declare(t)
}

func inParentheses(l []string) string {
	if len(l) == 0 {
		return ""
	}
	return "(" + strings.Join(l, ", ") + ")"
}

func (g *maker) function() {
	local, isLocal := g.local()
	t := thing{name: g.fresh("f"), shape: "definition", local: isLocal}
	g.add("%s%s[%s] == %s", local, t.name, "p \\in "+g.expr(1, nil)+g.pick("", ", q, a \\in "+g.expr(1, nil)), g.expr(2, []string{"p"}))
	g.declare(t)
}

// instance makes an instance of a module, alone or with a name.
func (g *maker) instance() {
	if len(g.sources) == 0 {
		return
	}
	s := g.sources[g.IntN(len(g.sources))]
	local, isLocal := g.local()
	if g.chance(0.3) {
		g.add("%sINSTANCE %s%s", local, s.name, g.substs(s, nil))
		for _, t := range s.things {
			if t.shape == "definition" && !t.local {
				t.local = isLocal
				g.declare(t)
			}
		}
		return
	}
	t := thing{name: g.fresh(g.pick("I", "J")), shape: "instance", local: isLocal, of: s}
	var params, bound []string
	for range g.IntN(3) {
		p := g.pick("b", "e", "g", "i")
		if g.chance(0.1) {
			p = g.pick("a", "p", "x1", "y", "c1", "f2", "Len")
		}
		bound = append(bound, p)
		params = append(params, p+g.pick("", "", "(_)"))
	}
	t.args = len(params)
	g.add("%s%s%s == INSTANCE %s%s", local, t.name, inParentheses(params), s.name, g.substs(s, bound))
	g.declare(t)
}

// substs makes what replaces the parameters of a module.
func (g *maker) substs(s *source, bound []string) string {
	var l []string
	seen := map[string]bool{}
	for _, p := range s.params {
		if (seen[p.name] || g.knows(p) && g.chance(0.4) || g.chance(0.02)) && !g.chance(g.wild) {
			continue
		}
		seen[p.name] = true
		l = append(l, p.name+" <- "+g.argument(p.args, bound))
	}
	if g.chance(g.wild) {
		l = append(l, g.pick("c", "d", "(+)", "v")+" <- 1")
	}
	if len(l) == 0 {
		return ""
	}
	return " WITH " + strings.Join(l, ", ")
}

// knows reports whether the module has a name like a parameter's.
func (g *maker) knows(p thing) bool {
	for _, t := range g.now.things {
		if t.name == p.name && t.args == p.args {
			return true
		}
	}
	return false
}

// argument makes what replaces a parameter.
func (g *maker) argument(args int, bound []string) string {
	switch {
	case args == 2 && g.chance(0.3) || g.chance(g.wild):
		return g.sign("+")
	case args > 0 && g.chance(0.5):
		return g.known(bound)
	case args > 0 && g.chance(0.5), g.chance(0.05):
		return "LAMBDA " + strings.Join([]string{"y", "z", "w"}[:max(1, args)], ", ") + " : " + g.expr(2, append([]string{"y"}, bound...))
	}
	return g.expr(2, bound)
}

// sign returns a definable sign that is known, or another one.
func (g *maker) sign(other string) string {
	for _, t := range g.now.things {
		if len(t.name) > 0 && strings.ContainsAny(t.name[:1], "(+\\/&") && g.chance(0.5) {
			return t.name
		}
	}
	return other
}

// known returns a name that can be used, or a path of names.
func (g *maker) known(bound []string) string {
	if g.chance(g.wild) {
		return g.pick("d1", "c", "N", "I1", "zz", "f2", "v")
	}
	if len(bound) > 0 && g.chance(0.3) {
		return bound[g.IntN(len(bound))]
	}
	if len(g.now.things) == 0 || g.chance(0.1) {
		return g.pick("Int", "Nat", "Len", "Seq")
	}
	t := g.now.things[g.IntN(len(g.now.things))]
	switch {
	case t.shape == "instance":
		return g.path(t, bound)
	case strings.ContainsAny(t.name[:1], "(+\\/&"):
		return "Nat"
	}
	return t.name
}

// path makes a name behind that of an instance.
func (g *maker) path(t thing, bound []string) string {
	var args []string
	for range t.args {
		args = append(args, g.simple(bound))
	}
	if g.chance(g.wild) {
		args = append(args, "1")
	}
	var l []thing
	for _, x := range t.of.things {
		isSign := strings.ContainsAny(x.name[:1], "(+\\/&")
		if (x.shape == "definition" || x.shape == "instance") && (!x.local || g.chance(g.wild+0.02)) && !isSign {
			l = append(l, x)
		}
	}
	if len(l) == 0 {
		return "Int"
	}
	x := l[g.IntN(len(l))]
	behind := x.name
	if x.shape == "instance" {
		if behind = g.path(x, bound); behind == "Int" {
			return "Int"
		}
	} else if g.chance(0.4) {
		behind += "(" + g.simple(bound) + ")"
	}
	return t.name + inParentheses(args) + "!" + behind
}

// simple makes an argument for an instance.
func (g *maker) simple(bound []string) string {
	if len(bound) > 0 && g.chance(0.5) {
		return bound[0]
	}
	if g.chance(0.3) {
		return g.expr(0, bound)
	}
	return "2"
}

// expr makes an expression in parentheses.
func (g *maker) expr(deep int, bound []string) string { return "(" + g.bare(deep, bound) + ")" }

func (g *maker) bare(deep int, bound []string) string {
	if deep == 0 || g.chance(0.2) {
		if g.chance(0.4) {
			return g.pick("1", "\"s\"", "TRUE")
		}
		return g.known(bound)
	}
	e := func() string { return g.expr(deep-1, bound) }
	in := func(names ...string) string { return g.expr(deep-1, append(names, bound...)) }
	y := g.pick("y", "z", "c", "p", "a")
	switch g.IntN(19) {
	case 0:
		return e() + g.pick("+", "=", "/\\", "<", "..") + e()
	case 1:
		return e() + g.sign("-") + e()
	case 2, 3:
		name := g.known(bound)
		if strings.HasSuffix(name, ")") {
			return name
		}
		return name + "(" + e() + g.pick("", ", +", ", LAMBDA y, z : "+in("y", "z"), ", "+g.sign("*")) + ")"
	case 4:
		return g.pick("\\A ", "\\E ") + y + " \\in " + e() + g.pick("", ", w \\in "+e(), ", <<w, u>> \\in "+e()) + " : " + in(y)
	case 5:
		return "CHOOSE " + y + " \\in " + e() + " : " + in(y)
	case 6:
		return "{" + y + " \\in " + e() + " : " + in(y) + "}"
	case 7:
		return "{" + in(y) + " : " + y + " \\in " + e() + ", <<u, w>> \\in " + e() + "}"
	case 8:
		return "[" + y + ", w \\in " + e() + " |-> " + in(y, "w") + "]"
	case 9:
		return "LET " + y + g.pick("", "(u)") + " == " + e() + " w[t \\in " + e() + "] == " + in(y) + " IN " + in(y, "w")
	case 10:
		return "LET u " + g.sign("++") + " w == " + in("u") + " IN " + e() + g.sign("++") + e()
	case 11:
		return "[" + e() + " EXCEPT ![" + e() + "].a = @ + " + e() + "]"
	case 12:
		return "IF " + e() + " THEN " + e() + " ELSE " + e()
	case 13:
		return "CASE " + e() + " -> " + e() + " [] OTHER -> " + e()
	case 14:
		return "<<" + e() + ", " + e() + ">>"
	case 15:
		return g.pick("~", "UNCHANGED ", "ENABLED ", "DOMAIN ") + e()
	case 16:
		return e() + "'"
	case 17:
		return "[a |-> " + e() + ", c |-> " + e() + "]." + g.pick("a", "c")
	}
	return "{" + e() + ", " + e() + "}[" + e() + "]"
}
