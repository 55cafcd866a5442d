package module_test

import (
	"reflect"
	"slices"
	"strings"
	"testing"

	"foregone/api"
	"foregone/module"
	"foregone/parse"
)

// Order: each time the first module whose used ones are named. P5.1
func TestOrder(t *testing.T) {
	for _, x := range []struct {
		want  string
		texts []string
	}{
		{"", nil},
		{"A B C", []string{`A: d == 1`, `B: d == 1`, `C: d == 1`}},
		{"C B A", []string{`A: EXTENDS B`, `B: INSTANCE C`, `C: d == 1`}},
		{"B D A C", []string{`A: d == 1 I(a) == INSTANCE D`, `B: EXTENDS TLC, Naturals INSTANCE Integers`, `C: EXTENDS A, B, A`, `D: INSTANCE B INSTANCE B`}},
		{"Naturals A", []string{`A: EXTENDS Naturals, Integers`, `Naturals: d == 1`}},
		{"C A E B D", []string{`D: EXTENDS B`, `B: EXTENDS A, E`, `C: d == 1`, `A: EXTENDS C`, `E: EXTENDS C`}},
		// Errors of the modules themselves are not looked at.
		{"B A", []string{`A: EXTENDS B d == z CONSTANT d`, `B: d == e`}},
	} {
		names, e := module.Order(read(t, x.texts...))
		if e != api.OK || !slices.Equal(names, strings.Fields(x.want)) {
			t.Errorf("%q: %v, %d; want %s", x.texts, names, e, x.want)
		}
	}
}

// Sign. P5.1
func TestSign(t *testing.T) {
	for s, want := range map[string]string{"(+)": "x282b29", "//": "x2f2f", "/": "x2f", "&": "x26", "$$": "x2424", "|": "x7c", "\\star": "x5c73746172", "^^": "x5e5e",
		"...": "x2e2e2e", "\\sqsubseteq": "x5c73717375627365746571", "??": "x3f3f", "%%": "x2525"} {
		if name, e := module.Sign(s); name != want || e != api.OK {
			t.Errorf("%s: %q, %d", s, name, e)
		}
	}
	for _, s := range []string{"", "+", "-", "a", "x282b29", "\\oplus", "(+", "~", "'", "\\X", "=", "\\cup", "<-", " //", "//\n"} {
		if name, e := module.Sign(s); name != "" || e != api.ErrArg {
			t.Errorf("%q: %q, %d", s, name, e)
		}
	}
}

// Exports: what is not local. P5.3, P5.11
func TestExports(t *testing.T) {
	const k = `K: CONSTANTS c, o(_, _) VARIABLES v, w \in c LOCAL k == c d(a, b(_)) == k F[m, n \in c] == m LOCAL G[n \in c] == n p // q == 1 RECURSIVE r(_) r(n) == 1 ASSUME c THEOREM c`
	const own = "c 3 0, o 3 2, v 4 0, w 4 0, d 8 2, F 9 0, // 8 2, r 8 1"
	for _, x := range []struct {
		want  string
		texts []string
	}{
		{"", []string{`M: LOCAL d == 1 ASSUME d`}},
		{own, []string{k}},
		{own + ", z 8 0", []string{k, `M: EXTENDS K z == 1`}},
		{"I!c 8 0, I!o 8 2, I!v 8 0, I!w 8 0, I!d 8 2, I!F 9 0, I!x2f2f 8 2, I!r 8 1", []string{k, `M: I == INSTANCE K WITH c <- 1, o <- +, v <- 2, w <- 3`}},
		{"c 3 0, I!o 8 3, I!v 8 1, I!w 8 1, I!d 8 3, I!F 8 1, I!x2f2f 8 3, I!r 8 2", []string{k, `M: CONSTANT c I(i) == INSTANCE K WITH o <- +, v <- 2, w <- i`}},
		{"K!c 8 0, K!o 8 2, K!v 8 0, K!w 8 0, d 8 2, F 9 0, // 8 2, r 8 1", []string{k, `M: INSTANCE K WITH c <- 1, o <- +, v <- 2, w <- 3`}},
		{"z 8 0", []string{k, `M: LOCAL INSTANCE K WITH c <- 1, o <- +, v <- 2, w <- 3 LOCAL I == INSTANCE K WITH c <- 1, o <- +, v <- 2, w <- 3 z == d`}},
		{"z 8 0, y 8 0", []string{k, `M: LOCAL INSTANCE K WITH c <- 1, o <- +, v <- 2, w <- 3 z == d`, `N: EXTENDS M y == z LOCAL x == y`}},
	} {
		l := read(t, x.texts...)
		got, e := module.Exports(l, l[len(l)-1].S)
		var want []api.Export
		for s := range strings.SplitSeq(x.want, ", ") {
			if f := strings.Fields(s); len(f) == 3 {
				kind := map[string]int{"3": api.NdConstants, "4": api.NdVariables, "8": api.NdDefine, "9": api.NdFunDef}[f[1]]
				want = append(want, api.Export{Name: f[0], Kind: kind, Args: int(f[2][0] - '0')})
			}
		}
		if e != api.OK || !slices.Equal(got, want) {
			t.Errorf("%q: %v, %d; want %v", x.texts, got, e, want)
		}
	}
}

// Origin: where a definition was written. P5.3
func TestOrigin(t *testing.T) {
	texts := []string{`K: CONSTANT c LOCAL k == c f[n \in c] == n p // q == c`, `A: EXTENDS K g == f`, `M: EXTENDS A h(a) == g I == INSTANCE A WITH c <- 1 J(b) == INSTANCE A WITH c <- I!g`}
	l := read(t, texts...)
	for name, want := range map[string][3]string{
		"f": {"K", "f[n", "f"}, "//": {"K", "p //", "//"}, "A!K!k": {"K", "LOCAL", "k"}, "g": {"A", "g ==", "g"}, "h": {"M", "h(a", "h"},
		"I!c": {"M", "c <- 1", "c"}, "I!K!k": {"K", "LOCAL", "k"}, "I!f": {"K", "f[n", "f"}, "I!x2f2f": {"K", "p //", "//"}, "I!g": {"A", "g ==", "g"},
		"J!c": {"M", "c <- I", "c"}, "J!f": {"K", "f[n", "f"}, "J!g": {"A", "g ==", "g"},
	} {
		spot, s, e := module.Origin(l, "M", name)
		text := textOf(texts[strings.Index("KAM", want[0])])
		if e != api.OK || s != want[2] || spot.Module != want[0] || spot.At != strings.Index(text, want[1]) {
			t.Errorf("%s: %v, %q, %d", name, spot, s, e)
		}
	}
	for _, name := range []string{"", "c", "k", "I", "x2f2f", "I!k", "M", "K", "I!J", "a", "n", "Len", "I!//"} {
		if spot, s, e := module.Origin(l, "M", name); e != api.ErrNone || s != "" || spot != (api.Spot{}) {
			t.Errorf("%s: %v, %q, %d", name, spot, s, e)
		}
	}
}

// Duties: the assumptions of instances. P5.4
func TestDuties(t *testing.T) {
	const k = `K: CONSTANT c ASSUME c > 0 d == c LOCAL e == c ASSUME q == \A x \in e : x = d`
	const base = `B: CONSTANT c ASSUME c I == INSTANCE K`
	for _, x := range []struct {
		want  string
		texts []string
	}{
		{``, []string{k}},
		{``, []string{k, `M: EXTENDS K`}},
		{`I: I$c > 0; I: \A x \in I$e : x = I$d`, []string{k, `M: I == INSTANCE K WITH c <- 1`}},
		{`I: I$c(a, b) > 0; I: \A x \in I$e(a, b) : x = I$d(a, b)`, []string{k, `M: I(a, b(_)) == INSTANCE K WITH c <- b(a)`}},
		{`K: c > 0; K: \A x \in K$e : x = d`, []string{k, `M: CONSTANT c INSTANCE K`}},
		// In order of the instances; extended modules of the instance's module count.
		{`J: J$c > 0; J: \A x \in J$K$e : x = J$d; J: J$x2f2f(J$c, J$e); I: I$c > 0; I: \A x \in I$e : x = I$d`,
			[]string{k, `L: EXTENDS K e == 2 LOCAL p // q == p ASSUME c // e`, `M: J == INSTANCE L WITH c <- 1 I == INSTANCE K WITH c <- 2`}},
		// Of extended modules; local ones have longer paths.
		{`I: c > 0; I: \A x \in A$B$I$e : x = I$d; A$J: A$J$c(a) > 0; A$J: \A x \in A$J$e(a) : x = A$J$d(a); A$K: A$K$c > 0; A$K: \A x \in A$K$e : x = A$d; Z: Z$c > 0; Z: \A x \in Z$e : x = Z$d`,
			[]string{k, base, `A: EXTENDS B LOCAL J(a) == INSTANCE K WITH c <- a LOCAL INSTANCE K WITH c <- 1`, `M: EXTENDS A LOCAL Z == INSTANCE K WITH c <- 7`}},
		{`C$A$J: C$A$J$c > 0; C$A$J: \A x \in C$A$J$e : x = C$A$J$d`, []string{k, `A: LOCAL J == INSTANCE K WITH c <- 1`, `C: EXTENDS A`, `M: EXTENDS C`}},
		// Not those of instances within instances.
		{`I: I$c`, []string{k, base, `M: I == INSTANCE B WITH c <- 1`}},
	} {
		l := read(t, x.texts...)
		got, e := module.Duties(l, l[len(l)-1].S)
		var want []string
		for s := range strings.SplitSeq(x.want, "; ") {
			if path, text, ok := strings.Cut(s, ": "); ok {
				n := flatTree(t, `W: ASSUME `+text)
				want = append(want, strings.ReplaceAll(path, "$", "!")+" "+shown(n.L[0].L[0]))
			}
		}
		var told []string
		for _, d := range got {
			told = append(told, d.Path+" "+shown(d.E))
		}
		if e != api.OK || !slices.Equal(told, want) {
			t.Errorf("%q: %d\n%q\nwant\n%q", x.texts, e, told, want)
		}
	}
}

// What comes from errors of Flat. P5.3, P5.4
func TestToldErrors(t *testing.T) {
	for want, text := range map[api.Errno]string{api.ErrUnknown: `M: d == z`, api.ErrDouble: `M: CONSTANT c, c`, api.ErrSubst: `M: I == INSTANCE TLC WITH c <- 1`,
		api.ErrLocal: `M: EXTENDS A e == I!d`, api.ErrPath: `M: I == INSTANCE A d == I(1)!d`, api.ErrLimit: `M: ` + strings.Repeat("I", 39) + ` == INSTANCE A`} {
		l := read(t, `A: d == 1 LOCAL I == INSTANCE TLC`, text)
		if x, e := module.Exports(l, "M"); e != want || x != nil {
			t.Errorf("Exports of %s: %d", text, e)
		}
		if x, e := module.Duties(l, "M"); e != want || x != nil {
			t.Errorf("Duties of %s: %d", text, e)
		}
		if spot, s, e := module.Origin(l, "M", "d"); e != want || s != "" || spot != (api.Spot{}) {
			t.Errorf("Origin of %s: %d", text, e)
		}
		if names, e := module.Order(l); e != api.OK || !slices.Equal(names, []string{"A", "M"}) {
			t.Errorf("Order with %s: %d", text, e)
		}
	}
}

// All of it, compared with the second way. P5.2, P5.3, P5.4
func TestReference(t *testing.T) {
	for seed := range uint64(1500) {
		texts := randomModules(seed)
		l := read(t, texts...)
		root := l[len(l)-1]
		got, spot, e := module.Flat(l, root.S)
		f, left := refFlat(l)
		if e != left.e || spot != left.spot {
			t.Fatalf("seed %d\n%s\nerror %d at %v, want %d at %v", seed, texts, e, spot, left.e, left.spot)
		}
		if e != api.OK {
			continue
		}
		if want := refModule(f, root); !same(got, want) {
			t.Fatalf("seed %d\n%s\ngot  %s\nwant %s", seed, texts, shown(got), shown(want))
		}
		if !parse.IsFlat(got) {
			t.Fatalf("seed %d\n%s\nnot flat: %s", seed, texts, shown(got))
		}
		compareTold(t, l, root.S, f)
	}
}

// compareTold compares what Exports, Duties and Origin tell.
func compareTold(t *testing.T, l []api.Node, root string, f *refForm) {
	t.Helper()
	var exports []api.Export
	var duties []api.Duty
	for _, u := range f.units {
		if isRefDefinition(u) {
			spot, name, e := module.Origin(l, root, u.n.S)
			if e != api.OK || name != u.was || spot != u.origin {
				t.Errorf("Origin of %s: %v, %q, %d; want %v, %q", u.n.S, spot, name, e, u.origin, u.was)
			}
			if args := len(u.n.L) - 1; !u.local && u.n.Kind == api.NdDefine {
				exports = append(exports, api.Export{Name: u.n.S, Kind: api.NdDefine, Args: args})
			} else if !u.local {
				exports = append(exports, api.Export{Name: u.n.S, Kind: api.NdFunDef})
			}
			continue
		}
		for _, e := range u.n.L {
			switch u.n.Kind {
			case api.NdConstants, api.NdVariables:
				exports = append(exports, api.Export{Name: e.S, Kind: u.n.Kind, Args: e.N})
			case api.NdInstance:
				duties = append(duties, api.Duty{Path: u.n.S, E: e})
			}
		}
	}
	if got, e := module.Exports(l, root); e != api.OK || !reflect.DeepEqual(got, exports) {
		t.Errorf("Exports: %v, %d; want %v", got, e, exports)
	}
	got, e := module.Duties(l, root)
	isSame := func(a, b api.Duty) bool { return a.Path == b.Path && same(a.E, b.E) }
	if e != api.OK || !slices.EqualFunc(got, duties, isSame) {
		t.Errorf("Duties: %v, %d; want %v", got, e, duties)
	}
}
